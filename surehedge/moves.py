"""Moves: the capital of a book if more, or less, has to be paid at one node."""

from surehedge.capital import of_state, rests_behind, rests_with
from surehedge.games import ends_of, first_state, reached
from surehedge.lines import MINUS_ONE, add_lines, greater_line, lesser_line, scale_line, straight
from surehedge.markets import children, path_to
from surehedge.numbers import ZERO, divided
from surehedge.pairs import Ledger, played
from surehedge.steps import cost_under
from surehedge.weights import check_free

ONE = (1, 1)


def capital_with(market, book, node, amount):
    """Returns the capital of the book if this amount more has to be paid at the node; raises NotFree."""
    check_free(market)
    rows = played(market, book, reached(market, book))
    return rests_with(market, rows, node, amount).capitals.at(0, first_state(book))


def up_line(market, book, node):
    """Returns the line of the capital for each amount that more has to be paid at the node; raises NotFree."""
    return _line_of(market, book, node, ONE)


def down_line(market, book, node):
    """Returns the line of the capital for each amount that less has to be paid at the node; raises NotFree."""
    return _line_of(market, book, node, MINUS_ONE)


def _line_of(market, book, node, slope):
    """Returns the line of the capital if, for each x, so many times x more has to be paid at the node.

    Only the capitals of pairs on the way to the node change; a line is worked out for each one.
    """
    check_free(market)
    rows = played(market, book, reached(market, book))
    rests = rests_behind(market, rows)
    way = path_to(market, node)
    lines = Ledger(market)
    for place, state, game in rows[::-1]:
        if place == node:
            lines.enter(place, state, straight(rests.capitals.at(place, state), slope))
        elif place in way:
            child = way[way.index(place) + 1]
            lines.enter(place, state, _game_line(game, _rest_lines(rests, lines, (place, child), game)))
    return lines.at(0, first_state(book))


def _game_line(game, rests):
    """Returns the line of the capital of a game, with these lines of the rests of the states in which it ends."""
    if game[0] == "end":
        return add_lines(straight(game[1], ZERO), of_state(game[2], rests))
    first = _game_line(game[2], rests)
    second = _game_line(game[3], rests)
    return lesser_line(first, second) if game[0] == "ours" else greater_line(first, second)


def _rest_lines(rests, lines, step, game):
    """Returns the list of the states in which the game ends, with the lines of their rests."""
    found = []
    for _, _, state in ends_of(game):
        if state not in [other for other, _ in found]:
            found.append((state, _rest_line(rests, lines, step, state)))
    return found


def _rest_line(rests, lines, step, state):
    """Returns the line of the rest of the state at a node of which the line of one child is known.

    It is the greatest one of the lines that the means under extreme weights have.
    """
    node, child = step
    market = rests.market
    place = children(market, node).index(child)
    others = rests.capitals.below(node, state)
    others[place] = ZERO
    line = lines.at(child, state)
    found = []
    for weights in rests.extremes(node):
        factor = divided(weights[place], market[2][node][1])
        fixed = straight(cost_under(market, node, weights, others), ZERO)
        found.append(add_lines(fixed, scale_line(line, factor)))
    greatest = found[0]
    for each in found:
        greatest = greater_line(greatest, each)
    return greatest
