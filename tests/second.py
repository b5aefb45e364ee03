"""Second readings of the document, over fractions, to test the program against."""

import itertools
from fractions import Fraction


def fractions(numbers):
    return [Fraction(*each) for each in numbers]


def number_of(fraction):
    return (fraction.numerator, fraction.denominator)


def product_of(a, b):
    return sum((Fraction(*x) * Fraction(*y) for x, y in zip(a, b, strict=True)), Fraction(0))


# Systems

def row_holds(row, numbers):
    factors, sign, bound = row
    value = product_of(factors, numbers)
    bound = Fraction(*bound)
    return {"=": value == bound, "<=": value <= bound, "<": value < bound}[sign]


def is_solution(count, rows, numbers):
    return len(numbers) == count and all(row_holds(row, numbers) for row in rows)


def has_signs(rows, multipliers):
    return len(multipliers) == len(rows) and all(
        row[1] == "=" or Fraction(*each) >= 0 for row, each in zip(rows, multipliers)
    )


def mix_of(count, rows, multipliers):
    """The factors of the sum of the rows, and its bound."""
    factors = [Fraction(0)] * count
    bound = Fraction(0)
    for (row, _, most), each in zip(rows, fractions(multipliers), strict=True):
        factors = [old + each * new for old, new in zip(factors, fractions(row), strict=True)]
        bound += each * Fraction(*most)
    return factors, bound


def refutes(count, rows, multipliers):
    if not has_signs(rows, multipliers):
        return False
    factors, bound = mix_of(count, rows, multipliers)
    strict = any(row[1] == "<" and Fraction(*each) > 0 for row, each in zip(rows, multipliers))
    return not any(factors) and (bound < 0 or (bound == 0 and strict))


def is_right(count, rows, answer):
    word, numbers = answer
    if word == "solution":
        return is_solution(count, rows, numbers)
    return word == "multipliers" and refutes(count, rows, numbers)


def is_right_for(count, objective, rows, answer):
    if answer[0] == "none":
        return len(answer) == 2 and refutes(count, rows, answer[1])
    if answer[0] == "falling":
        _, solution, way = answer
        level = [(factors, sign, (0, 1)) for factors, sign, _ in rows]
        return (
            is_solution(count, rows, solution) and is_solution(count, level, way)
            and product_of(objective, way) < 0
        )
    word, value, solution, multipliers = answer
    if word != "least" or not is_solution(count, rows, solution) or not has_signs(rows, multipliers):
        return False
    factors, bound = mix_of(count, rows, multipliers)
    return (
        product_of(objective, solution) == Fraction(*value) == -bound
        and all(a + b == 0 for a, b in zip(factors, fractions(objective), strict=True))
    )


# Weights

def gain_table(market, node):
    """The gains of the assets in each child, as fractions."""
    nodes = market[2]
    growth = Fraction(*nodes[node][1])
    before = fractions(nodes[node][3])
    table = []
    for row in nodes:
        if row[0] == node:
            after = [a + b for a, b in zip(fractions(row[3]), fractions(row[4]))]
            table.append([new - growth * old for new, old in zip(after, before)])
    return table


def means_are_right(market, node, weights):
    """Tells of fractions whether the mean gains are as the rules of the node want them."""
    table = gain_table(market, node)
    for asset, rule in enumerate(market[2][node][2]):
        mean = sum(weight * row[asset] for weight, row in zip(weights, table, strict=True))
        if not {"any": mean == 0, "long": mean <= 0, "short": mean >= 0, "none": True}[rule]:
            return False
    return True


def is_weights(market, node, numbers, positive=False):
    table = gain_table(market, node)
    weights = fractions(numbers)
    if not table or len(weights) != len(table) or sum(weights) != 1:
        return False
    if min(weights) < 0 or (positive and min(weights) == 0):
        return False
    return means_are_right(market, node, weights)


def only_solution(rows):
    """The only solution of equations, lists of fractions with the right side behind, or None."""
    rows = [list(row) for row in rows]
    count = len(rows[0]) - 1
    done = 0
    for place in range(count):
        found = [k for k in range(done, len(rows)) if rows[k][place]]
        if not found:
            return None
        rows[done], rows[found[0]] = rows[found[0]], rows[done]
        rows[done] = [each / rows[done][place] for each in rows[done]]
        for k in range(len(rows)):
            if k != done:
                rows[k] = [a - rows[k][place] * b for a, b in zip(rows[k], rows[done])]
        done += 1
    if any(row[-1] for row in rows[done:]):
        return None
    return [row[-1] for row in rows[:done]]


def extreme_weights(market, node):
    """All weights that are the only ones with these children of weight 0 and these mean gains of 0."""
    table = gain_table(market, node)
    rules = market[2][node][2]
    loose = [asset for asset, rule in enumerate(rules) if rule in ("long", "short")]
    found = set()
    for many in range(1, len(table) + 1):
        for support in itertools.combinations(range(len(table)), many):
            for tight in subsets(loose):
                rows = [[Fraction(1)] * (many + 1)]
                for asset, rule in enumerate(rules):
                    if rule == "any" or asset in tight:
                        rows.append([table[child][asset] for child in support] + [Fraction(0)])
                part = only_solution(rows)
                if part is not None and min(part) >= 0:
                    weights = [Fraction(0)] * len(table)
                    for child, each in zip(support, part):
                        weights[child] = each
                    if means_are_right(market, node, weights):
                        found.add(tuple(weights))
    return [[number_of(each) for each in weights] for weights in sorted(found)]


def subsets(places):
    for many in range(len(places) + 1):
        yield from itertools.combinations(places, many)


# Steps

def win(market, node, place, holdings):
    """The win of holdings in the child at this place among the children."""
    return sum(a * b for a, b in zip(fractions(holdings), gain_table(market, node)[place], strict=True))


def keeps_rules(market, node, holdings):
    signs = {"any": (-1, 0, 1), "long": (0, 1), "short": (-1, 0), "none": (0,)}
    for rule, amount in zip(market[2][node][2], fractions(holdings), strict=True):
        if (amount > 0) - (amount < 0) not in signs[rule]:
            return False
    return True


def wins(market, node, holdings):
    if not keeps_rules(market, node, holdings):
        return False
    found = [win(market, node, place, holdings) for place in range(len(gain_table(market, node)))]
    return min(found) >= 0 and max(found) > 0


def covers(market, node, values, wealth, holdings):
    if not keeps_rules(market, node, holdings):
        return False
    grown = Fraction(*market[2][node][1]) * Fraction(*wealth)
    return all(
        grown + win(market, node, place, holdings) >= value
        for place, value in enumerate(fractions(values))
    )


def is_cost_paper(market, node, values, paper):
    cost, numbers, holdings = paper
    if not is_weights(market, node, numbers):
        return False
    mean = product_of(numbers, values) / Fraction(*market[2][node][1])
    return (
        mean == Fraction(*cost) and len(holdings) == len(market[0])
        and covers(market, node, values, cost, holdings)
    )
