"""Refutations: weights and moves that show that a book cannot be kept with less, and plays against plans.

A refutation has a tree for each reached pair: ("end", weights), ("ours", tree, tree) or
("theirs", move, tree, tree).
"""

from surehedge.capital import move_that_counts, rests_behind
from surehedge.games import first_state, game_of, reached
from surehedge.markets import children, is_leaf, wealth_in
from surehedge.numbers import compare, lesser, minus, plus
from surehedge.pairs import along_trees, are_trees, played
from surehedge.plans import need_along, need_ledger, trees_of
from surehedge.steps import cost_under
from surehedge.weights import check_free, is_weights


def is_refutation(market, book, refutation):
    """Tells whether the list of trees is a refutation for the book."""
    return are_trees(market, book, refutation, "theirs", _can_weigh)


def _can_weigh(market, node, numbers):
    return numbers == [] if is_leaf(market, node) else is_weights(market, node, numbers)


def shown(market, book, refutation):
    """Returns the list of what the refutation shows from the reached pairs, in their order."""
    known = along_trees(market, book, refutation, _shown_along)
    return [known.at(node, state) for node, state in reached(market, book)]


def _shown_along(known, node, game, tree):
    """Returns what a refutation with this tree shows, from what is known below the node."""
    if game[0] == "end":
        if is_leaf(known.market, node):
            return game[1]
        values = known.below(node, game[2])
        return plus(game[1], cost_under(known.market, node, tree[1], values))
    if game[0] == "theirs":
        return _shown_along(known, node, game[2 + tree[1]], tree[2 + tree[1]])
    return lesser(_shown_along(known, node, game[2], tree[1]), _shown_along(known, node, game[3], tree[2]))


def best_refutation(market, book):
    """Returns a refutation that shows the capitals of the pairs; raises NotFree."""
    check_free(market)
    rows = played(market, book, reached(market, book))
    rests = rests_behind(market, rows)
    return [_best_tree(rests, node, game) for node, _, game in rows]


def _best_tree(rests, node, game):
    if game[0] == "end":
        return ("end", [] if is_leaf(rests.market, node) else rests.weights(node, game[2]))
    first = _best_tree(rests, node, game[2])
    second = _best_tree(rests, node, game[3])
    if game[0] == "ours":
        return ("ours", first, second)
    return ("theirs", move_that_counts(game, rests.of_game(node, game)), first, second)


def play_against(market, book, plan, *, wealth):
    """Returns a play that ends in a leaf with less than is paid there, or None if the wealth is enough."""
    known = need_ledger(market, book, plan)
    trees = trees_of(market, book, plan)
    node = 0
    state = first_state(book)
    if compare(wealth, known.at(node, state)) >= 0:
        return None
    play = []
    while True:
        game = game_of(market, book, node, state)
        moves, end, tree = _dearest_end(known, node, game, trees.at(node, state))
        play.append((node, moves))
        if is_leaf(market, node):
            return play
        state = end[2]
        left = minus(wealth, end[1])
        node, wealth = _short_child(known, node, state, (left, tree[1]))


def _dearest_end(known, node, game, tree):
    """Returns the moves of the others with which the plan needs most, and the end and its tree."""
    moves = []
    while game[0] != "end":
        if game[0] == "ours":
            move = tree[1]
        else:
            first = need_along(known, node, game[2], tree[1])
            second = need_along(known, node, game[3], tree[2])
            move = 0 if compare(first, second) >= 0 else 1
            moves.append(move)
        game = game[2 + move]
        tree = tree[move - 2]
    return (moves, game, tree)


def _short_child(known, node, state, kept):
    """Returns the first child in which this wealth and these holdings are less than is needed, with the wealth there.

    There is one, as the wealth is less than the holdings need.
    """
    left, holdings = kept
    found = []
    for child in children(known.market, node):
        wealth = wealth_in(known.market, node, child, left, holdings)
        if compare(wealth, known.at(child, state)) < 0:
            found.append((child, wealth))
    return found[0]
