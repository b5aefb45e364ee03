"""Games: what is paid and chosen at a node, and the pairs that are reached."""

from surehedge.contracts import amount_at, has_choices, holds_at
from surehedge.errors import (
    BadState,
    FewerMoves,
    HasChoices,
    MoreMoves,
    TooManyChoices,
    TooManyNames,
    TooManyPairs,
)
from surehedge.markets import children, is_leaf
from surehedge.numbers import ZERO, minus, plus

MOST_CHOICES = 4
MOST_NAMES = 8
MOST_PAIRS = 200


def first_state(book):
    """Returns the first state of the book."""
    return [[contract[0][0]] for _, contract in book]


def check_state(book, state):
    """Raises BadState if the state is not one of the book."""
    if len(state) != len(book):
        raise BadState()
    for names, (_, contract) in zip(state, book):
        if len(names) > MOST_NAMES:
            raise BadState()
        known = [name for name, _ in contract]
        for name in names:
            if name not in known:
                raise BadState()


def game_of(market, book, node, state):
    """Returns the game of the node in the state."""
    todo = []
    for index, names in enumerate(state):
        clauses = dict(book[index][1])
        for name in names:
            todo.append((index, clauses[name]))
    return _game_from(market, book, node, todo[::-1], (ZERO, [[] for _ in book], 0))


def _game_from(market, book, node, todo, so_far):
    """Returns the game that goes on with the clauses of todo, the last one first.

    What came so far is told by what is paid, the state behind, and how many choices were made.
    """
    todo = list(todo)
    paid, behind, choices = so_far
    behind = copied(behind)
    ends_here = is_leaf(market, node)
    while todo:
        index, clause = todo.pop()
        word = clause[0]
        if word == "pay":
            paid = _after_payment(book[index][0], paid, amount_at(market, node, clause[1]))
        elif word == "next" and not ends_here:
            _put_in_force(behind[index], clause[1])
        elif word == "both":
            todo.extend([(index, clause[2]), (index, clause[1])])
        elif word == "if":
            todo.append((index, clause[2] if holds_at(market, node, clause[1]) else clause[3]))
        elif word == "choice":
            if choices == MOST_CHOICES:
                raise TooManyChoices()
            so_far = (paid, behind, choices + 1)
            first = _game_from(market, book, node, todo + [(index, clause[2])], so_far)
            second = _game_from(market, book, node, todo + [(index, clause[3])], so_far)
            return (_chooser(book[index][0], clause[1]), index, first, second)
    return ("end", paid, behind)


def _after_payment(side, paid, amount):
    return plus(paid, amount) if side == "written" else minus(paid, amount)


def _put_in_force(names, name):
    if len(names) == MOST_NAMES:
        raise TooManyNames()
    names.append(name)


def _chooser(side, who):
    """Returns "ours" if we are who chooses in a contract on this side."""
    ours = "writer" if side == "written" else "holder"
    return "ours" if who == ours else "theirs"


def copied(state):
    """Returns the state anew, as a caller may change what was returned."""
    return [list(names) for names in state]


def ends_of(game):
    """Returns the list of the ends of the game, tuples (moves, paid, state), in order."""
    if game[0] == "end":
        return [([], game[1], copied(game[2]))]
    found = []
    for move in (0, 1):
        for moves, paid, state in ends_of(game[2 + move]):
            found.append(([move] + moves, paid, state))
    return found


def end_of(game, moves):
    """Returns the tuple (paid, state) of the end to which the moves lead."""
    for move in moves:
        if game[0] == "end":
            raise FewerMoves()
        game = game[2 + move]
    if game[0] != "end":
        raise MoreMoves()
    return (game[1], copied(game[2]))


def reached(market, book):
    """Returns the list of the pairs of a node and a state that are reached, in order."""
    return reached_from(market, book, 0, first_state(book))


def reached_from(market, book, node, state):
    """Returns the list of the pairs that are reached from this pair, in order."""
    states_at = {node: [state]}
    many = 1
    for place in range(node, len(market[2])):
        if place in states_at:
            below = children(market, place)
            behind = _states_behind(market, book, place, states_at[place], many)
            many += len(behind) * len(below)
            for child in below:
                states_at[child] = behind
    return [(place, copied(each)) for place in sorted(states_at) for each in states_at[place]]


def _states_behind(market, book, node, states, many):
    """Returns the states in which the children of the node are reached, from these states of the node.

    As many pairs are reached already; more are counted as soon as a game adds them.
    """
    below = len(children(market, node))
    behind = []
    for state in states:
        for end in ends_of(game_of(market, book, node, state)):
            if end[2] not in behind:
                behind.append(end[2])
        if many + below * len(behind) > MOST_PAIRS:
            raise TooManyPairs()
    return behind


def exchanged(book):
    """Returns the book with all sides exchanged."""
    return [("held" if side == "written" else "written", list(contract)) for side, contract in book]


def payments_of(market, contract):
    """Returns, for each node, what the writer of the contract pays there; it has no choices."""
    if has_choices(contract):
        raise HasChoices()
    book = [("written", contract)]
    return [game_of(market, book, node, state)[1] for node, state in reached(market, book)]
