"""Capital: the least wealth with which a book can be kept."""

from surehedge.games import ends_of, first_state, reached, reached_from
from surehedge.markets import children, is_leaf
from surehedge.numbers import ZERO, greater, lesser, minus, plus
from surehedge.pairs import Ledger, played
from surehedge.steps import cost_under, costliest
from surehedge.weights import check_free, extreme_weights


class Rests:
    """The rests of states at nodes, worked out of the capitals of the pairs below.

    Extreme weights and rests are kept, as many games end in the same states.
    """

    def __init__(self, market):
        """Begins without capitals."""
        self.market = market
        self.capitals = Ledger(market)
        self._lists = {}
        self._rests = Ledger(market)

    def extremes(self, node):
        """Returns the extreme weights of the node; they are only read."""
        if node not in self._lists:
            self._lists[node] = extreme_weights(self.market, node)
        return self._lists[node]

    def weights(self, node, state):
        """Returns the weights under which the capitals of the children in this state have the greatest mean."""
        return list(costliest(self.extremes(node), self.capitals.below(node, state)))

    def rest(self, node, state):
        """Returns the rest of the state."""
        if is_leaf(self.market, node):
            return ZERO
        if not self._rests.has(node, state):
            values = self.capitals.below(node, state)
            cost = cost_under(self.market, node, self.weights(node, state), values)
            self._rests.enter(node, state, cost)
        return self._rests.at(node, state)

    def of_game(self, node, game):
        """Returns the list of the states in which the game of the node ends, with their rests."""
        return [(state, self.rest(node, state)) for _, _, state in ends_of(game)]


def rests_behind(market, rows):
    """Returns the rests and capitals of pairs, of which the tuples (node, state, game) are handed in."""
    return rests_with(market, rows, 0, ZERO)


def rests_with(market, rows, moved, more):
    """Returns the same if at the node that is moved so much more has to be paid than its games say."""
    rests = Rests(market)
    for node, state, game in rows[::-1]:
        needed = game_capital(game, rests.of_game(node, game))
        if node == moved:
            needed = plus(needed, more)
        rests.capitals.enter(node, state, needed)
    return rests


def game_capital(game, rests):
    """Returns the capital of a game, with these rests of the states in which it ends."""
    if game[0] == "end":
        return plus(game[1], of_state(game[2], rests))
    first = game_capital(game[2], rests)
    second = game_capital(game[3], rests)
    return lesser(first, second) if game[0] == "ours" else greater(first, second)


def of_state(state, rests):
    """Returns what stands beside the state in a list of tuples, such as its rest."""
    found = [rest for other, rest in rests if other == state]
    return found[0]


def move_that_counts(game, rests):
    """Returns the first move of a choice that leads to the capital of its game."""
    return 0 if game_capital(game[2], rests) == game_capital(game, rests) else 1


def capitals(market, book):
    """Returns the list of the capitals of the reached pairs of the book; raises NotFree."""
    check_free(market)
    pairs = reached(market, book)
    found = rests_behind(market, played(market, book, pairs)).capitals
    return [found.at(node, state) for node, state in pairs]


def capital(market, book):
    """Returns the capital of the book; raises NotFree."""
    return capital_at(market, book, node=0, state=first_state(book))


def capital_at(market, book, *, node, state):
    """Returns the capital of the pair of this node and this state, reached or not; raises NotFree."""
    check_free(market)
    return capital_of_pair(market, book, node, state)


def capital_of_pair(market, book, node, state):
    """Returns the capital of the pair; the market is free."""
    pairs = reached_from(market, book, node, state)
    return rests_behind(market, played(market, book, pairs)).capitals.at(node, state)


def rest_of_state(market, book, node, state):
    """Returns the rest of the state at the node; the market is free."""
    rows = []
    for child in children(market, node):
        rows.extend(played(market, book, reached_from(market, book, child, state)))
    return rests_behind(market, rows).rest(node, state)


def raised(market, book, *, side, contract):
    """Returns by how much the contract on this side raises the capital of the book; raises NotFree."""
    return minus(capital(market, book + [(side, contract)]), capital(market, book))
