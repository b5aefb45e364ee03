"""Plans: holdings and moves with which a book is kept, and what follows from them.

A plan has a tree for each reached pair: ("end", holdings), ("ours", move, tree, tree) or
("theirs", tree, tree).
"""

from surehedge.arbitrage import win
from surehedge.capital import move_that_counts, rests_behind
from surehedge.errors import BadStep
from surehedge.games import copied, first_state, game_of, reached
from surehedge.holdings import can_be_held
from surehedge.markets import children, is_leaf, wealth_in
from surehedge.numbers import ZERO, divided, greater, minus, plus
from surehedge.pairs import Ledger, along_trees, are_trees, played
from surehedge.steps import covering
from surehedge.weights import check_free


def is_plan(market, book, plan):
    """Tells whether the list of trees is a plan for the book."""
    return are_trees(market, book, plan, "ours", can_be_held)


def needs(market, book, plan):
    """Returns the list of the needs of the plan from the reached pairs, in their order."""
    known = need_ledger(market, book, plan)
    return [known.at(node, state) for node, state in reached(market, book)]


def need_ledger(market, book, plan):
    """Returns a ledger of the needs of the plan from the reached pairs."""
    return along_trees(market, book, plan, need_along)


def need_along(known, node, game, tree):
    """Returns the need of a plan with this tree, from the needs that are known below the node."""
    if game[0] == "end":
        return plus(game[1], _least_wealth(known, node, game[2], tree[1]))
    if game[0] == "ours":
        return need_along(known, node, game[2 + tree[1]], tree[2 + tree[1]])
    return greater(need_along(known, node, game[2], tree[1]), need_along(known, node, game[3], tree[2]))


def _least_wealth(known, node, state, holdings):
    """Returns the least wealth that, with the holdings, becomes what is needed in each child."""
    market = known.market
    if is_leaf(market, node):
        return ZERO
    lacking = [
        minus(known.at(child, state), win(market, child, holdings))
        for child in children(market, node)
    ]
    most = lacking[0]
    for each in lacking:
        most = greater(most, each)
    return divided(most, market[2][node][1])


def best_plan(market, book):
    """Returns a plan whose needs are the capitals of the pairs; raises NotFree."""
    check_free(market)
    rows = played(market, book, reached(market, book))
    rests = rests_behind(market, rows)
    held = Ledger(market)
    return [_best_tree(rests, held, node, game) for node, _, game in rows]


def _best_tree(rests, held, node, game):
    if game[0] == "end":
        return ("end", _best_holdings(rests, held, node, game[2]))
    first = _best_tree(rests, held, node, game[2])
    second = _best_tree(rests, held, node, game[3])
    if game[0] == "theirs":
        return ("theirs", first, second)
    return ("ours", move_that_counts(game, rests.of_game(node, game)), first, second)


def _best_holdings(rests, held, node, state):
    """Returns holdings with which the rest of the state is enough; the ledger keeps them for other ends."""
    if is_leaf(rests.market, node):
        return []
    if not held.has(node, state):
        values = rests.capitals.below(node, state)
        held.enter(node, state, covering(rests.market, node, values, rests.rest(node, state)))
    return list(held.at(node, state))


def follow(market, book, plan, *, wealth, play):
    """Returns the steps (node, state, wealth, paid, later, holdings) of following the plan along the play.

    Raises BadStep with the place of the first step of the play that is wrong.
    """
    trees = trees_of(market, book, plan)
    state = first_state(book)
    steps = []
    for place, (node, moves) in enumerate(play):
        if not _can_come_next(market, steps, node):
            raise BadStep(place)
        if place > 0:
            before, _, had, paid, later, holdings = steps[-1]
            state = copied(later)
            wealth = wealth_in(market, before, node, minus(had, paid), holdings)
        end = _end_along(game_of(market, book, node, state), trees.at(node, state), moves)
        if end is None:
            raise BadStep(place)
        paid, later, holdings = end
        steps.append((node, state, wealth, paid, later, holdings))
    return steps


def trees_of(market, book, plan):
    """Returns a ledger of the trees of the plan."""
    trees = Ledger(market)
    for (node, state), tree in zip(reached(market, book), plan):
        trees.enter(node, state, tree)
    return trees


def _can_come_next(market, steps, node):
    if steps == []:
        return node == 0
    return node in children(market, steps[-1][0])


def _end_along(game, tree, moves):
    """Returns the tuple (paid, state, holdings) of the end to which these moves of the others lead.

    Returns None if they are not as many as come up, or one that comes up is not 0 or 1.
    """
    made = 0
    while game[0] != "end":
        if game[0] == "ours":
            move = tree[1]
        elif made == len(moves) or moves[made] not in (0, 1):
            return None
        else:
            move = moves[made]
            made += 1
        game = game[2 + move]
        tree = tree[move - 2]
    if made != len(moves):
        return None
    return (game[1], game[2], list(tree[1]))
