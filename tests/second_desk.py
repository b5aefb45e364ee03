"""A second reading of points 73 to 77: desks over fractions, that keep all that they ever were."""

import copy
from fractions import Fraction

from surehedge import errors
from surehedge.contracts import check_contract
from surehedge.games import end_of, game_of, reached_from
from surehedge.numbers import is_number, is_short
from tests import second


class SecondDesk:
    """What a desk is after each deed in force stands in one list, what was undone behind it."""

    def __init__(self, market, wealth):
        self.market = copy.deepcopy(market)
        self.known = [(0, "open", Fraction(*wealth), [], [])]
        self.now = 0
        self.journal = []

    def show(self):
        """All that a desk shows."""
        node, word, wealth, book, state = copy.deepcopy(self.known[self.now])
        least = self.least(self.known[self.now])
        return {
            "position": node, "is_settled": word == "settled", "wealth": second.number_of(wealth), "book": book,
            "state": state, "can_undo": self.now > 0, "can_redo": self.now + 1 < len(self.known),
            "capital": second.number_of(least), "surplus": second.number_of(wealth - least), "len": len(book),
            "game": None if word == "settled" else game_of(self.market, book, node, state),
            "journal": copy.deepcopy(self.journal),
        }

    def least(self, spot):
        node, word, _, book, state = spot
        if word == "open":
            return second.capital(self.market, book, node, state)
        below = [number for number, _ in self.below(node, book, state)]
        if not below:
            return Fraction(0)
        means = [
            sum(Fraction(*weight) * value for weight, value in zip(weights, below, strict=True))
            for weights in second.extreme_weights(self.market, node)
        ]
        return max(means) / Fraction(*self.market[2][node][1])

    def below(self, node, book, state):
        """The capitals of the children, and their places."""
        return [
            (second.capital(self.market, book, child, state), child)
            for child in second.children(self.market, node)
        ]

    def do(self, deed):
        """Does the deed, which is an entry of a journal, and returns what the desk returns."""
        deed = copy.deepcopy(deed)
        result = getattr(self, deed[0])(*deed[1:])
        self.journal.append(deed)
        return result

    def go_on(self, spot):
        if spot[2] < self.least(spot):
            raise errors.NotEnough()
        self.known[self.now + 1:] = [spot]
        self.now += 1

    def take(self, side, contract, price):
        node, word, wealth, book, state = self.known[self.now]
        if side not in ["written", "held"]:
            raise errors.BadSide()
        check_contract(self.market, contract)
        if not is_short(price):
            raise errors.BadNumber()
        if word != "open":
            raise errors.NotOpen()
        if len(book) == 4:
            raise errors.BadSize()
        book = book + [(side, contract)]
        state = state + [[contract[0][0]]]
        reached_from(self.market, book, node, state)
        wealth += {"written": 1, "held": -1}[side] * Fraction(*price)
        self.go_on((node, word, wealth, book, state))
        return len(book)

    def settle(self, moves):
        node, word, wealth, book, state = self.known[self.now]
        for move in moves:
            if repr(move) not in ["0", "1"]:
                raise errors.BadMove()
        if word != "open":
            raise errors.NotOpen()
        paid, later = end_of(game_of(self.market, book, node, state), moves)
        self.go_on((node, "settled", wealth - Fraction(*paid), book, later))
        return paid

    def go(self, holdings, child):
        node, word, wealth, book, state = self.known[self.now]
        if len(holdings) != len(self.market[0]):
            raise errors.BadSize()
        for each in holdings:
            if not is_number(each):
                raise errors.BadNumber()
        if word != "settled":
            raise errors.NotSettled()
        if repr(child) not in map(repr, second.children(self.market, node)):
            raise errors.NotAChild()
        if not second.keeps_rules(self.market, node, holdings):
            raise errors.BreaksRules()
        there = {}
        for place, (needed, other) in enumerate(self.below(node, book, state)):
            there[other] = Fraction(*self.market[2][node][1]) * wealth
            there[other] += second.win(self.market, node, place, holdings)
            if there[other] < needed:
                raise errors.NotEnough()
        self.go_on((child, "open", there[child], book, state))
        return second.number_of(there[child])

    def undo(self):
        if self.now == 0:
            raise errors.NothingToUndo()
        self.now -= 1

    def redo(self):
        if self.now + 1 == len(self.known):
            raise errors.NothingToRedo()
        self.now += 1

    def do_all(self, deeds):
        before = (list(self.known), self.now, list(self.journal))
        try:
            for deed in deeds:
                self.do(deed)
        except errors.HedgeError:
            self.known, self.now, self.journal = before
            raise
