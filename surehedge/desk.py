"""Desks: going down a market with a book and a wealth that always suffices."""

from surehedge.capital import capital_of_pair, rest_of_state
from surehedge.contracts import MOST_CONTRACTS, check_contract
from surehedge.errors import (
    BadEntry,
    BadMove,
    BadNumber,
    BadSide,
    BadSize,
    BreaksRules,
    HedgeError,
    Negative,
    NotAChild,
    NotEnough,
    NothingToRedo,
    NothingToUndo,
    NotOpen,
    NotSettled,
)
from surehedge.fresh import fresh
from surehedge.games import copied, end_of, game_of
from surehedge.grammar import SIDES
from surehedge.markets import check_market, children, keeps_rules, wealth_in
from surehedge.numbers import ZERO, compare, is_number, is_short, is_whole, minus, plus
from surehedge.weights import check_free


class Desk:
    """A desk at a node of a market.

    A spot is a tuple (node, is_settled, wealth, book, state): where the desk is and what it
    has. Spots are never changed: each deed makes a new one.
    """

    def __init__(self, market, *, wealth):
        """Begins at the root with an empty book; raises what is due for the market and the wealth."""
        check_market(market)
        check_free(market)
        if not is_short(wealth):
            raise BadNumber()
        if compare(wealth, ZERO) < 0:
            raise Negative()
        self._market = fresh(market)
        self._spot = (0, False, wealth, [], [])
        self._before = []
        self._undone = []
        self._entries = []

    def take(self, side, contract, *, price):
        """Takes the contract on, and returns the number of contracts."""
        node, is_done, wealth, book, state = self._spot
        if side not in SIDES:
            raise BadSide()
        check_contract(self._market, contract)
        if not is_short(price):
            raise BadNumber()
        if is_done:
            raise NotOpen()
        if len(book) == MOST_CONTRACTS:
            raise BadSize()
        book = book + [(side, fresh(contract))]
        state = state + [[contract[0][0]]]
        wealth = plus(wealth, price) if side == "written" else minus(wealth, price)
        # The capital there cannot be told if too much is reached: what reached_from raises comes first.
        self._go_on((node, False, wealth, book, state), ("take", side, fresh(contract), price))
        return len(book)

    def settle(self, moves):
        """Settles with these moves for all choices, and returns what was paid."""
        node, _, wealth, book, _ = self._spot
        if not all([is_whole(move) and move in (0, 1) for move in moves]):
            raise BadMove()
        paid, behind = end_of(self.game(), moves)
        self._go_on((node, True, minus(wealth, paid), book, behind), ("settle", list(moves)))
        return paid

    def go(self, holdings, *, child):
        """Goes to the child with the holdings, and returns the wealth there."""
        node, is_done, wealth, book, state = self._spot
        market = self._market
        if len(holdings) != len(market[0]):
            raise BadSize()
        if not all([is_number(each) for each in holdings]):
            raise BadNumber()
        if not is_done:
            raise NotSettled()
        if not is_whole(child) or child not in children(market, node):
            raise NotAChild()
        if not keeps_rules(market, node, holdings):
            raise BreaksRules()
        for other in children(market, node):
            there = wealth_in(market, node, other, wealth, holdings)
            _check_enough(there, capital_of_pair(market, book, other, state))
        there = wealth_in(market, node, child, wealth, holdings)
        self._keep((child, False, there, book, state), ("go", list(holdings), child))
        return there

    def _go_on(self, spot, entry):
        """Goes on at the spot, if the wealth there is enough."""
        _check_enough(spot[2], _capital_at(self._market, spot))
        self._keep(spot, entry)

    def _keep(self, spot, entry):
        self._before.append(self._spot)
        self._spot = spot
        self._undone = []
        self._entries.append(entry)

    def undo(self):
        """Undoes the last deed that is in force."""
        if self._before == []:
            raise NothingToUndo()
        self._undone.append(self._spot)
        self._spot = self._before.pop()
        self._entries.append(("undo",))

    def redo(self):
        """Does again the deed that was undone last."""
        if self._undone == []:
            raise NothingToRedo()
        self._before.append(self._spot)
        self._spot = self._undone.pop()
        self._entries.append(("redo",))

    def do_all(self, deeds):
        """Does the deeds together: all of them, or none if one raises an error."""
        spot = self._spot
        before = list(self._before)
        undone = list(self._undone)
        entries = list(self._entries)
        try:
            for deed in deeds:
                self._do(deed)
        except HedgeError:
            self._spot = spot
            self._before = before
            self._undone = undone
            self._entries = entries
            raise

    def _do(self, deed):
        word = deed[0]
        if word == "take":
            self.take(deed[1], deed[2], price=deed[3])
        elif word == "settle":
            self.settle(deed[1])
        elif word == "go":
            self.go(deed[1], child=deed[2])
        elif word == "undo":
            self.undo()
        else:
            self.redo()

    @property
    def position(self):
        """The place of the node."""
        return self._spot[0]

    @property
    def is_settled(self):
        """Whether the book is settled at the node."""
        return self._spot[1]

    @property
    def wealth(self):
        """The wealth at the node."""
        return self._spot[2]

    @property
    def book(self):
        """The book, anew."""
        return fresh(self._spot[3])

    @property
    def state(self):
        """The state of the book, anew."""
        return copied(self._spot[4])

    @property
    def can_undo(self):
        """Whether a deed is in force."""
        return len(self._before) > 0

    @property
    def can_redo(self):
        """Whether a deed is undone that can be done again."""
        return len(self._undone) > 0

    def capital(self):
        """Returns the least wealth with which the desk can go on."""
        return _capital_at(self._market, self._spot)

    def surplus(self):
        """Returns the wealth less the capital."""
        return minus(self._spot[2], self.capital())

    def game(self):
        """Returns the game of the node in the state."""
        node, is_done, _, book, state = self._spot
        if is_done:
            raise NotOpen()
        return game_of(self._market, book, node, state)

    def journal(self):
        """Returns the list of the deeds that raised no error, anew."""
        return fresh(self._entries)

    def __len__(self):
        """Returns the number of contracts."""
        return len(self._spot[3])


def _check_enough(wealth, capital):
    if compare(wealth, capital) < 0:
        raise NotEnough()


def _capital_at(market, spot):
    """Returns the capital of a desk at this spot."""
    node, is_done, _, book, state = spot
    if is_done:
        return rest_of_state(market, book, node, state)
    return capital_of_pair(market, book, node, state)


def replay(market, wealth, journal):
    """Returns the desk that does the deeds of the journal; raises BadEntry with the place of the first wrong one."""
    desk = Desk(market, wealth=wealth)
    for place, deed in enumerate(journal):
        try:
            desk.do_all([deed])
        except HedgeError:
            raise BadEntry(place) from None
    return desk
