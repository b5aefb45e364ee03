"""Second readings of the document, over fractions, to test the program against."""

import itertools
from fractions import Fraction

from surehedge.games import game_of, reached


def fractions(numbers):
    return [Fraction(*each) for each in numbers]


def number_of(fraction):
    return (fraction.numerator, fraction.denominator)


def product_of(a, b):
    return sum((Fraction(*x) * Fraction(*y) for x, y in zip(a, b, strict=True)), Fraction(0))


# Systems

def row_holds(row, numbers):
    factors, sign, bound = row
    value = product_of(factors, numbers)
    bound = Fraction(*bound)
    return {"=": value == bound, "<=": value <= bound, "<": value < bound}[sign]


def is_solution(count, rows, numbers):
    return len(numbers) == count and all(row_holds(row, numbers) for row in rows)


def has_signs(rows, multipliers):
    return len(multipliers) == len(rows) and all(
        row[1] == "=" or Fraction(*each) >= 0 for row, each in zip(rows, multipliers)
    )


def mix_of(count, rows, multipliers):
    """The factors of the sum of the rows, and its bound."""
    factors = [Fraction(0)] * count
    bound = Fraction(0)
    for (row, _, most), each in zip(rows, fractions(multipliers), strict=True):
        factors = [old + each * new for old, new in zip(factors, fractions(row), strict=True)]
        bound += each * Fraction(*most)
    return factors, bound


def refutes(count, rows, multipliers):
    if not has_signs(rows, multipliers):
        return False
    factors, bound = mix_of(count, rows, multipliers)
    strict = any(row[1] == "<" and Fraction(*each) > 0 for row, each in zip(rows, multipliers))
    return not any(factors) and (bound < 0 or (bound == 0 and strict))


def is_right(count, rows, answer):
    word, numbers = answer
    if word == "solution":
        return is_solution(count, rows, numbers)
    return word == "multipliers" and refutes(count, rows, numbers)


def is_right_for(count, objective, rows, answer):
    if answer[0] == "none":
        return len(answer) == 2 and refutes(count, rows, answer[1])
    if answer[0] == "falling":
        _, solution, way = answer
        level = [(factors, sign, (0, 1)) for factors, sign, _ in rows]
        return (
            is_solution(count, rows, solution) and is_solution(count, level, way)
            and product_of(objective, way) < 0
        )
    word, value, solution, multipliers = answer
    if word != "least" or not is_solution(count, rows, solution) or not has_signs(rows, multipliers):
        return False
    factors, bound = mix_of(count, rows, multipliers)
    return (
        product_of(objective, solution) == Fraction(*value) == -bound
        and all(a + b == 0 for a, b in zip(factors, fractions(objective), strict=True))
    )


# Weights

def gain_table(market, node):
    """The gains of the assets in each child, as fractions."""
    nodes = market[2]
    growth = Fraction(*nodes[node][1])
    before = fractions(nodes[node][3])
    table = []
    for row in nodes:
        if row[0] == node:
            after = [a + b for a, b in zip(fractions(row[3]), fractions(row[4]))]
            table.append([new - growth * old for new, old in zip(after, before)])
    return table


def means_are_right(market, node, weights):
    """Tells of fractions whether the mean gains are as the rules of the node want them."""
    table = gain_table(market, node)
    for asset, rule in enumerate(market[2][node][2]):
        mean = sum(weight * row[asset] for weight, row in zip(weights, table, strict=True))
        if not {"any": mean == 0, "long": mean <= 0, "short": mean >= 0, "none": True}[rule]:
            return False
    return True


def is_weights(market, node, numbers, positive=False):
    table = gain_table(market, node)
    weights = fractions(numbers)
    if not table or len(weights) != len(table) or sum(weights) != 1:
        return False
    if min(weights) < 0 or (positive and min(weights) == 0):
        return False
    return means_are_right(market, node, weights)


def only_solution(rows):
    """The only solution of equations, lists of fractions with the right side behind, or None."""
    rows = [list(row) for row in rows]
    count = len(rows[0]) - 1
    done = 0
    for place in range(count):
        found = [k for k in range(done, len(rows)) if rows[k][place]]
        if not found:
            return None
        rows[done], rows[found[0]] = rows[found[0]], rows[done]
        rows[done] = [each / rows[done][place] for each in rows[done]]
        for k in range(len(rows)):
            if k != done:
                rows[k] = [a - rows[k][place] * b for a, b in zip(rows[k], rows[done])]
        done += 1
    if any(row[-1] for row in rows[done:]):
        return None
    return [row[-1] for row in rows[:done]]


def extreme_weights(market, node):
    """All weights that are the only ones with these children of weight 0 and these mean gains of 0."""
    table = gain_table(market, node)
    rules = market[2][node][2]
    loose = [asset for asset, rule in enumerate(rules) if rule in ("long", "short")]
    found = set()
    for many in range(1, len(table) + 1):
        for support in itertools.combinations(range(len(table)), many):
            for tight in subsets(loose):
                rows = [[Fraction(1)] * (many + 1)]
                for asset, rule in enumerate(rules):
                    if rule == "any" or asset in tight:
                        rows.append([table[child][asset] for child in support] + [Fraction(0)])
                part = only_solution(rows)
                if part is not None and min(part) >= 0:
                    weights = [Fraction(0)] * len(table)
                    for child, each in zip(support, part):
                        weights[child] = each
                    if means_are_right(market, node, weights):
                        found.add(tuple(weights))
    return [[number_of(each) for each in weights] for weights in sorted(found)]


def subsets(places):
    for many in range(len(places) + 1):
        yield from itertools.combinations(places, many)


# Steps

def win(market, node, place, holdings):
    """The win of holdings in the child at this place among the children."""
    return sum(a * b for a, b in zip(fractions(holdings), gain_table(market, node)[place], strict=True))


def keeps_rules(market, node, holdings):
    signs = {"any": (-1, 0, 1), "long": (0, 1), "short": (-1, 0), "none": (0,)}
    for rule, amount in zip(market[2][node][2], fractions(holdings), strict=True):
        if (amount > 0) - (amount < 0) not in signs[rule]:
            return False
    return True


def wins(market, node, holdings):
    if not keeps_rules(market, node, holdings):
        return False
    found = [win(market, node, place, holdings) for place in range(len(gain_table(market, node)))]
    return min(found) >= 0 and max(found) > 0


def covers(market, node, values, wealth, holdings):
    if not keeps_rules(market, node, holdings):
        return False
    grown = Fraction(*market[2][node][1]) * Fraction(*wealth)
    return all(
        grown + win(market, node, place, holdings) >= value
        for place, value in enumerate(fractions(values))
    )


def is_cost_paper(market, node, values, paper):
    cost, numbers, holdings = paper
    if not is_weights(market, node, numbers):
        return False
    mean = product_of(numbers, values) / Fraction(*market[2][node][1])
    return (
        mean == Fraction(*cost) and len(holdings) == len(market[0])
        and covers(market, node, values, cost, holdings)
    )


# Books

def children(market, node):
    return [place for place, row in enumerate(market[2]) if row[0] == node]


def capital(market, book, node, state, more=(None, Fraction(0))):
    """The capital of a pair as a fraction, from the top down; at the node of more so much more has to be paid."""
    needed = game_capital(market, book, node, game_of(market, book, node, state), more)
    return needed + more[1] if node == more[0] else needed


def game_capital(market, book, node, game, more=(None, Fraction(0))):
    if game[0] != "end":
        both = [game_capital(market, book, node, each, more) for each in game[2:]]
        return min(both) if game[0] == "ours" else max(both)
    below = [number_of(capital(market, book, child, game[2], more)) for child in children(market, node)]
    rest = Fraction(0)
    if below:
        rest = max(product_of(each, below) for each in extreme_weights(market, node))
        rest /= Fraction(*market[2][node][1])
    return Fraction(*game[1]) + rest


class Trees:
    """The trees of a plan or a refutation, and what they come to from each pair, as fractions."""

    def __init__(self, market, book, trees):
        self.market = market
        self.book = book
        self.pairs = reached(market, book)
        self.trees = {repr(pair): tree for pair, tree in zip(self.pairs, trees, strict=True)}
        self.known = {}

    def all(self, rule):
        return [number_of(self.at(node, state, rule)) for node, state in self.pairs]

    def at(self, node, state, rule):
        key = repr((node, state))
        if key not in self.known:
            game = game_of(self.market, self.book, node, state)
            self.known[key] = rule(self, node, game, self.trees[key])
        return self.known[key]


def needs(market, book, plan):
    return Trees(market, book, plan).all(need)


def need(trees, node, game, tree):
    if game[0] == "ours":
        return need(trees, node, game[2:][tree[1]], tree[2:][tree[1]])
    if game[0] == "theirs":
        return max(need(trees, node, *each) for each in zip(game[2:], tree[1:]))
    rest = Fraction(0)
    lacking = []
    for place, child in enumerate(children(trees.market, node)):
        lacking.append(trees.at(child, game[2], need) - win(trees.market, node, place, tree[1]))
    if lacking:
        rest = max(lacking) / Fraction(*trees.market[2][node][1])
    return Fraction(*game[1]) + rest


def shown(market, book, refutation):
    return Trees(market, book, refutation).all(shown_by)


def shown_by(trees, node, game, tree):
    if game[0] == "theirs":
        return shown_by(trees, node, game[2:][tree[1]], tree[2:][tree[1]])
    if game[0] == "ours":
        return min(shown_by(trees, node, *each) for each in zip(game[2:], tree[1:]))
    below = [number_of(trees.at(child, game[2], shown_by)) for child in children(trees.market, node)]
    rest = product_of(tree[1], below) / Fraction(*trees.market[2][node][1]) if below else 0
    return Fraction(*game[1]) + rest


def is_list_of_trees(market, book, trees, mover, fits):
    """Tells whether there is a tree for each pair, with moves of the mover, and lists at the ends that fit."""
    pairs = reached(market, book)
    return len(trees) == len(pairs) and all(
        is_tree(game_of(market, book, node, state), tree, mover, lambda each, node=node: fits(market, node, each))
        for (node, state), tree in zip(pairs, trees)
    )


def is_tree(game, tree, mover, fits):
    if tree[0] != game[0]:
        return False
    if game[0] == "end":
        return fits(tree[1])
    if game[0] == mover and tree[1] not in [0, 1]:
        return False
    below = tree[2:] if game[0] == mover else tree[1:]
    return all(is_tree(*each, mover, fits) for each in zip(game[2:], below, strict=True))


def is_plan(market, book, plan):
    def fits(market, node, holdings):
        if not children(market, node):
            return holdings == []
        return len(holdings) == len(market[0]) and keeps_rules(market, node, holdings)

    return is_list_of_trees(market, book, plan, "ours", fits)


def is_refutation(market, book, refutation):
    def fits(market, node, numbers):
        return is_weights(market, node, numbers) if children(market, node) else numbers == []

    return is_list_of_trees(market, book, refutation, "theirs", fits)


def end_along(game, tree, moves):
    """The end to which a plan and these moves of the others lead, and its holdings."""
    moves = list(moves)
    while game[0] != "end":
        if game[0] == "ours":
            game, tree = game[2:][tree[1]], tree[2:][tree[1]]
        else:
            move = moves.pop(0)
            game, tree = game[2:][move], tree[1:][move]
    assert moves == []
    return game[1], game[2], tree[1]


def follow(market, book, plan, wealth, play):
    """The steps of following a plan along a play that has no wrong step."""
    trees = Trees(market, book, plan).trees
    state = [[contract[0][0]] for _, contract in book]
    has = Fraction(*wealth)
    before = None
    steps = []
    for node, moves in play:
        if before is not None:
            last, paid, holdings = before
            left = has - Fraction(*paid)
            has = Fraction(*market[2][last][1]) * left + win(market, last, children(market, last).index(node), holdings)
        paid, later, holdings = end_along(game_of(market, book, node, state), trees[repr((node, state))], moves)
        steps.append((node, state, number_of(has), paid, later, holdings))
        before = (node, paid, holdings)
        state = later
    return steps


def plays(market, book, plan):
    """All plays that end in a leaf."""
    trees = Trees(market, book, plan).trees

    def further(node, state):
        for moves in moves_of_others(game_of(market, book, node, state), trees[repr((node, state))]):
            step = (node, moves)
            _, later, _ = end_along(game_of(market, book, node, state), trees[repr((node, state))], moves)
            if not children(market, node):
                yield [step]
            for child in children(market, node):
                for behind in further(child, later):
                    yield [step] + behind

    return list(further(0, [[contract[0][0]] for _, contract in book]))


def moves_of_others(game, tree):
    if game[0] == "end":
        return [[]]
    if game[0] == "ours":
        return moves_of_others(game[2:][tree[1]], tree[2:][tree[1]])
    return [[move] + rest for move in (0, 1) for rest in moves_of_others(game[2:][move], tree[1:][move])]


# Programs

def is_point(program, point):
    rows, bounds, objective = program
    return (
        len(point) == len(objective) and all(each >= 0 for each in fractions(point))
        and all(product_of(row, point) <= Fraction(*bound) for row, bound in zip(rows, bounds, strict=True))
    )


def mixed_rows(program, multipliers):
    """The mix of the rows, or None if these are no multipliers."""
    rows, _, objective = program
    if len(multipliers) != len(rows) or any(each < 0 for each in fractions(multipliers)):
        return None
    return [
        sum((each * Fraction(*row[place]) for each, row in zip(fractions(multipliers), rows)), Fraction(0))
        for place in range(len(objective))
    ]


def is_program_solution(program, told):
    rows, bounds, objective = program
    if told[0] == "none":
        mix = mixed_rows(program, told[1])
        return mix is not None and min(mix) >= 0 and product_of(bounds, told[1]) < 0
    if told[0] == "best":
        mix = mixed_rows(program, told[2])
        return (
            is_point(program, told[1]) and mix is not None
            and all(a >= b for a, b in zip(mix, fractions(objective)))
            and product_of(bounds, told[2]) == product_of(objective, told[1])
        )
    level = (rows, [(0, 1) for _ in bounds], objective)
    return (
        told[0] == "endless" and is_point(program, told[1]) and is_point(level, told[2])
        and product_of(objective, told[2]) > 0
    )
