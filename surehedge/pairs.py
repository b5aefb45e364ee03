"""Pairs of a node and a state with their games, and what is known of them."""

from surehedge.games import game_of, reached
from surehedge.markets import children


class Ledger:
    """What is known of pairs: one thing of each, such as a number."""

    def __init__(self, market):
        """Begins with nothing that is known."""
        self.market = market
        self.known = {}

    def enter(self, node, state, told):
        """Keeps what is told of the pair."""
        self.known[(node, _key(state))] = told

    def has(self, node, state):
        """Tells whether something is known of the pair."""
        return (node, _key(state)) in self.known

    def at(self, node, state):
        """Returns what is known of the pair."""
        return self.known[(node, _key(state))]

    def below(self, node, state):
        """Returns what is known of the children of the node in this state, in order."""
        return [self.at(child, state) for child in children(self.market, node)]


def _key(state):
    return tuple([tuple(names) for names in state])


def played(market, book, pairs):
    """Returns for each pair the tuple (node, state, game)."""
    return [(node, state, game_of(market, book, node, state)) for node, state in pairs]


def along_trees(market, book, trees, rule):
    """Returns a ledger of what the rule tells of each pair, from the ledger of those below, its game and its tree."""
    rows = list(zip(played(market, book, reached(market, book)), trees))
    known = Ledger(market)
    for (node, state, game), tree in rows[::-1]:
        known.enter(node, state, rule(known, node, game, tree))
    return known


def are_trees(market, book, trees, mover, fits):
    """Tells whether there is a tree for each pair, of the shape of its game, with lists at its ends that fit the node.

    At the choices of the mover, and at no others, a tree has a move.
    """
    rows = played(market, book, reached(market, book))
    if len(trees) != len(rows):
        return False
    for (node, _, game), tree in zip(rows, trees):
        if not _has_shape(game, tree, mover):
            return False
        if not all([fits(market, node, each) for each in _lists_of(tree)]):
            return False
    return True


def _has_shape(game, tree, mover):
    word = game[0]
    if tree[0] != word:
        return False
    if word == "end":
        return True
    if word == mover and tree[1] not in (0, 1):
        return False
    return _has_shape(game[2], tree[-2], mover) and _has_shape(game[3], tree[-1], mover)


def _lists_of(tree):
    """Returns the lists at the ends of the tree, in order."""
    if tree[0] == "end":
        return [tree[1]]
    return _lists_of(tree[-2]) + _lists_of(tree[-1])
