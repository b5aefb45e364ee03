import copy
import itertools
import random
import time
import unittest
from fractions import Fraction

from surehedge.capital import capital, capital_at
from surehedge.desk import Desk, replay
from surehedge.errors import (
    BadClause,
    BadEntry,
    BadGrowth,
    BadMove,
    BadName,
    BadNumber,
    BadSide,
    BadSize,
    BreaksRules,
    FewerMoves,
    HedgeError,
    MoreMoves,
    Negative,
    NotAChild,
    NotEnough,
    NotFree,
    NothingToRedo,
    NothingToUndo,
    NotOpen,
    NotSettled,
    TooManyChoices,
    TooManyNames,
    TooManyPairs,
    UnknownName,
)
from surehedge.games import ends_of, game_of
from surehedge.steps import cost_of
from tests import makers, second
from tests.helpers import call_kept, node, spoil, stock_market, tree
from tests.second_desk import SecondDesk
from tests.test_capital import CALL, EARLY, always, choice, fixed, pay, two_steps, unfree_market
from tests.test_quotes import alone, numbers, trinomial, with_rule

LEAST = (1, 10 ** 10)
TINY = Fraction(1, 10 ** 30)
NO_NUMBERS = [(2, 4), (1, 0), (0, 2), (1, -1), (1,), (1, 1, 1), [1, 1], 5, "5", None, True, (True, 1), (1, True), (1.0, 1)]


def show(desk):
    """All that a desk shows."""
    return {
        "position": desk.position, "is_settled": desk.is_settled, "wealth": desk.wealth, "book": desk.book,
        "state": desk.state, "can_undo": desk.can_undo, "can_redo": desk.can_redo, "capital": desk.capital(),
        "surplus": desk.surplus(), "len": len(desk), "game": None if desk.is_settled else desk.game(),
        "journal": desk.journal(),
    }


def do(desk, deed):
    """Does one deed that is told as an entry of a journal, and returns what the desk returns."""
    word = deed[0]
    if word == "take":
        return desk.take(deed[1], deed[2], price=deed[3])
    if word == "settle":
        return desk.settle(deed[1])
    if word == "go":
        return desk.go(deed[1], child=deed[2])
    return {"undo": desk.undo, "redo": desk.redo}[word]()


def near(number, off):
    return second.number_of(Fraction(*number) + off)


def rich(market=None, wealth=1000):
    return Desk(market or stock_market(), wealth=(wealth, 1))


class Judge(unittest.TestCase):
    def refuse(self, error, desk, deed):
        """The deed raises just this error, and the desk shows the same as before."""
        before = show(desk)
        handed = copy.deepcopy(deed)
        with self.assertRaises(error) as caught:
            do(desk, deed)
        self.assertIs(caught.exception.__class__, error)
        self.assertEqual(deed, handed)
        self.assertEqual(show(desk), before)

    def shows(self, desk, **expected):
        told = show(desk)
        self.assertEqual({name: told[name] for name in expected}, expected)


class Beginning(Judge):
    def test_a_new_desk(self):
        desk = call_kept(self, Desk, stock_market(), wealth=(7, 2))
        self.shows(
            desk, position=0, is_settled=False, wealth=(7, 2), book=[], state=[], can_undo=False, can_redo=False,
            capital=(0, 1), surplus=(7, 2), len=0, game=("end", (0, 1), []), journal=[],
        )
        for told in (desk.is_settled, desk.can_undo, desk.can_redo):
            self.assertIs(told, False)
        self.shows(Desk(alone(), wealth=(0, 1)), wealth=(0, 1), capital=(0, 1), surplus=(0, 1))
        self.shows(Desk(alone(), wealth=(999999999999, 1)), wealth=(999999999999, 1))

    def test_what_is_raised_in_the_told_order(self):
        # Each market or wealth with the first error that is due for it.
        broken = (["stock"], [], [node(-1, [100], growth=(0, 1)), node(0, [120]), node(0, [110])])
        unfree = (["stock"], [], [node(-1, [100]), node(0, [120]), node(0, [110])])
        for market, of_market in ((broken, BadGrowth), (([], [], []), BadSize), (unfree, NotFree), (stock_market(), None)):
            for wealth, of_wealth in (
                ((-2, 4), BadNumber), (5, BadNumber), (None, BadNumber), ((10 ** 12, 1), BadNumber), ((-10 ** 12, 1), BadNumber),
                ((1, 10 ** 12), BadNumber), ((-1, 1), Negative), ((-1, 999999999999), Negative), ((0, 1), None), (LEAST, None),
            ):
                due = of_market or of_wealth
                if due is None:
                    self.assertEqual(Desk(market, wealth=wealth).wealth, wealth)
                    continue
                with self.assertRaises(due) as caught:
                    call_kept(self, Desk, market, wealth=wealth)
                self.assertIs(caught.exception.__class__, due)

    def test_the_first_node_that_is_not_free(self):
        market = unfree_market()
        for place in (1, 2):
            with self.assertRaises(NotFree) as caught:
                Desk(market, wealth=(-1, 1))
            self.assertEqual(caught.exception.node, place)
            market[2].append(node(1, [110]))

    def test_wealth_is_not_a_number(self):
        for wealth in NO_NUMBERS:
            with self.assertRaises(BadNumber):
                Desk(stock_market(), wealth=wealth)


class Taking(Judge):
    def test_on_both_sides(self):
        desk = Desk(stock_market(), wealth=(0, 1))
        self.assertEqual(call_kept(self, desk.take, "written", CALL, price=(5, 1)), 1)
        self.shows(
            desk, position=0, is_settled=False, wealth=(5, 1), book=[("written", CALL)], state=[["call"]], can_undo=True,
            can_redo=False, capital=(5, 1), surplus=(0, 1), len=1, game=("end", (0, 1), [["call"]]),
            journal=[("take", "written", CALL, (5, 1))],
        )
        self.assertEqual(desk.take("held", fixed(3, 2), price=(3, 2)), 2)
        self.shows(
            desk, wealth=(7, 2), book=[("written", CALL), ("held", fixed(3, 2))], state=[["call"], ["a"]],
            capital=(7, 2), surplus=(0, 1), len=2,
        )
        self.assertEqual(desk.take("held", CALL, price=(-1, 1)), 3)
        self.shows(desk, wealth=(9, 2), capital=(-3, 2), surplus=(6, 1), len=3)

    def test_prices_just_enough(self):
        for side, contract, price, fits in (
            ("written", CALL, (5, 1), 1), ("held", CALL, (5, 1), -1), ("written", always(1), (2, 1), 1),
            ("held", always(1), (2, 1), -1), ("written", fixed(-3), (-3, 1), 1),
        ):
            desk = Desk(stock_market(), wealth=(0, 1))
            self.refuse(NotEnough, desk, ("take", side, contract, near(price, -fits * Fraction(*LEAST))))
            self.assertEqual(desk.take(side, contract, price=price), 1)
            self.assertEqual(desk.surplus(), (0, 1))
            desk = Desk(stock_market(), wealth=(0, 1))
            desk.take(side, contract, price=near(price, fits * Fraction(*LEAST)))
            self.assertEqual(desk.surplus(), LEAST)

    def test_beside_wealth(self):
        desk = Desk(trinomial(), wealth=(3, 1))
        self.refuse(NotEnough, desk, ("take", "written", CALL, (3, 2)))
        self.assertEqual(desk.take("written", CALL, price=(2, 1)), 1)
        # What is held covers what is written, but alone it is worth nothing for sure.
        self.assertEqual(desk.take("held", CALL, price=(5, 1)), 2)
        self.shows(desk, wealth=(0, 1), capital=(0, 1))

    def test_at_another_node(self):
        desk = Desk(two_steps(), wealth=(10, 1))
        desk.settle([])
        desk.go(numbers(0), child=1)
        self.assertEqual(desk.take("written", EARLY, price=(40, 1)), 1)
        self.shows(desk, position=1, capital=(20, 1), state=[["wait"]], wealth=(50, 1), game=(
            "theirs", 0, ("end", (20, 1), [[]]), ("end", (0, 1), [["wait"]]),
        ))
        desk.settle([1])
        desk.go(numbers(1), child=4)
        self.shows(desk, position=4, wealth=(38, 1), capital=(8, 1), state=[["wait"]])
        self.assertEqual(desk.take("held", fixed(1), price=(0, 1)), 2)
        self.shows(desk, capital=(7, 1), state=[["wait"], ["a"]])

    def contract(self, wrong):
        """A contract with what is wrong by the numbers of the deed's errors."""
        clause = ("nothing",)
        if 6 in wrong:
            for _ in range(5):
                clause = choice("holder", clause, clause)
        if 7 in wrong:
            clause = ("both", pay(10 ** 9), clause)
        return [("a", clause)] + ([("b", ("next", "c"))] if 2 in wrong else [])

    def test_each_two_errors_at_once(self):
        due = dict(enumerate([BadSide, UnknownName, BadNumber, NotOpen, BadSize, TooManyChoices, NotEnough], 1))
        for many in range(1, 8):
            for wrong in itertools.combinations(due, many):
                desk = Desk(stock_market(), wealth=(10, 1))
                for _ in range(4 if 5 in wrong else 3):
                    desk.take("held", fixed(0), price=(0, 1))
                if 4 in wrong:
                    desk.settle([])
                side = "holder" if 1 in wrong else "written"
                price = (2, 4) if 3 in wrong else (2, 1)
                self.refuse(due[min(wrong)], desk, ("take", side, self.contract(wrong), price))

    def test_sides_and_prices(self):
        desk = rich()
        for side in ("", "holder", "writer", "Written", "held ", "both"):
            self.refuse(BadSide, desk, ("take", side, CALL, (5, 1)))
        for price in NO_NUMBERS + [(10 ** 12, 1), (-10 ** 12, 1), (1, 10 ** 12)]:
            for side in ("written", "held"):
                self.refuse(BadNumber, desk, ("take", side, CALL, price))

    def test_what_is_wrong_with_a_contract(self):
        desk = rich()
        for contract, error in (
            ([], BadSize), ([("a", ("nothing",))] * 13, BadSize), ([("2a", ("nothing",))], BadName), ([("a", ("none",))], BadClause),
            ([("a", ("nothing",)), ("a", ("nothing",))], BadName), ([("a", ("next", "b"))], UnknownName),
            ([("a", ("pay", ("number", (2, 4))))], BadNumber), ([("a", ("choice", "written", ("nothing",), ("nothing",)))], BadSide),
        ):
            self.refuse(error, desk, ("take", "written", contract, (2, 4)))

    def test_what_reached_from_raises(self):
        nine = ("next", "a")
        for _ in range(8):
            nine = ("both", ("next", "a"), nine)
        self.refuse(TooManyNames, rich(), ("take", "written", [("a", nine)], (0, 1)))
        # Along a way down the names grow in number: at the root there is one.
        twice = [("a", ("both", ("next", "a"), ("next", "a")))]
        market = tree([-1, 0, 1, 2, 3, 4])
        for row in market[2]:
            row[3][0] = (100, 1)
        self.refuse(TooManyNames, rich(market), ("take", "held", twice, (0, 1)))
        desk = rich(market)
        for place in (1, 2):
            desk.settle([])
            desk.go(numbers(0), child=place)
        self.assertEqual(desk.take("held", twice, price=(0, 1)), 1)
        wide = tree([-1] + [0] * 6 + [1] * 6 + [2] * 6 + [3] * 6 + [4] * 6 + [5] * 6 + [6] * 6)
        for row in wide[2]:
            row[3][0] = (100, 1)
        below = choice("holder", choice("writer", ("next", "a"), ("next", "b")), choice("writer", ("next", "c"), ("next", "d")))
        four = [(name, below) for name in "abcd"]
        desk = rich(wide)
        self.assertEqual(desk.take("written", four, price=(0, 1)), 1)
        self.refuse(TooManyPairs, desk, ("take", "written", four, (0, 1)))
        three = [("a", choice("holder", choice("writer", pay(1), choice("holder", pay(1), pay(2))), pay(1)))]
        self.refuse(TooManyChoices, desk, ("take", "written", three, (0, 1)))

    def test_four_contracts_at_most(self):
        desk = rich()
        for many in (1, 2, 3, 4):
            self.assertEqual(desk.take("written", CALL, price=(0, 1)), many)
        self.refuse(BadSize, desk, ("take", "written", CALL, (0, 1)))
        desk.undo()
        self.assertEqual(desk.take("held", CALL, price=(0, 1)), 4)


class Settling(Judge):
    def chosen(self, who="writer"):
        """100, or then 0 or 50 at the root."""
        return [("a", choice(who, pay(100), choice(who, pay(0), ("both", pay(50), ("next", "a")))))]

    def desk(self, wealth=10):
        desk = Desk(stock_market(), wealth=(wealth, 1))
        desk.take("written", self.chosen(), price=(0, 1))
        return desk

    def test_ours_and_theirs(self):
        desk = self.desk(60)
        self.assertEqual(call_kept(self, desk.settle, [1, 1]), (50, 1))
        self.shows(
            desk, position=0, is_settled=True, wealth=(10, 1), state=[["a"]], book=[("written", self.chosen())], capital=(0, 1),
            surplus=(10, 1), can_undo=True, can_redo=False, game=None, len=1,
        )
        self.assertEqual(desk.journal()[1:], [("settle", [1, 1])])
        desk.undo()
        self.assertEqual(desk.settle([1, 0]), (0, 1))
        self.shows(desk, state=[[]], wealth=(60, 1))
        held = Desk(stock_market(), wealth=(0, 1))
        held.take("held", self.chosen("writer"), price=(0, 1))
        self.assertEqual(held.settle([0]), (-100, 1))
        self.shows(held, wealth=(100, 1), capital=(0, 1), state=[[]])

    def test_an_empty_book(self):
        desk = Desk(stock_market(), wealth=(0, 1))
        self.assertEqual(desk.settle([]), (0, 1))
        self.shows(desk, is_settled=True, state=[], capital=(0, 1))

    def test_errors_in_order(self):
        for settled in (False, True):
            for moves, bad in (
                ([2], True), ([True], True), ([False], True), ([-1], True), (["0"], True), ([None], True), ([1.0], True),
                ([1, 1, 2], True), ([1, 0, True], True), ([(0, 1)], True), ([1, 0, 0], False), ([], False), ([0], False),
            ):
                desk = self.desk()
                if settled:
                    desk.settle([1, 0])
                due = BadMove if bad else NotOpen if settled else {3: FewerMoves, 0: MoreMoves, 1: NotEnough}[len(moves)]
                self.refuse(due, desk, ("settle", moves))

    def test_too_few_and_too_many_moves(self):
        for moves, error in (
            ([], MoreMoves), ([1], MoreMoves), ([0, 0], FewerMoves), ([0, 1], FewerMoves), ([1, 0, 0], FewerMoves),
            ([1, 1, 1, 0], FewerMoves), ([0], NotEnough), ([1, 1], NotEnough),
        ):
            self.refuse(error, self.desk(), ("settle", moves))
        self.refuse(FewerMoves, Desk(alone(), wealth=(0, 1)), ("settle", [0]))

    def test_just_enough(self):
        for off, fits in ((-Fraction(*LEAST), False), (0, True), (Fraction(*LEAST), True)):
            desk = Desk(stock_market(), wealth=near((50, 1), off))
            desk.take("written", self.chosen(), price=(0, 1))
            if fits:
                self.assertEqual(desk.settle([1, 1]), (50, 1))
                self.assertEqual(desk.surplus(), near((0, 1), off))
            else:
                self.refuse(NotEnough, desk, ("settle", [1, 1]))

    def test_what_comes_behind_counts(self):
        # The dear move pays nothing here, but 60 in both children.
        contract = [("a", choice("writer", pay(20), ("next", "b"))), ("b", pay(60))]
        for wealth, fits in ((60, True), (59, False), (20, False)):
            desk = Desk(stock_market(), wealth=(wealth, 1))
            desk.take("written", contract, price=(0, 1))
            if fits:
                self.assertEqual(desk.settle([1]), (0, 1))
                self.shows(desk, capital=(60, 1), surplus=(0, 1))
            else:
                self.refuse(NotEnough, desk, ("settle", [1]))
                self.assertEqual(desk.settle([0]), (20, 1))

    def test_at_leaves_and_inner_nodes(self):
        desk = Desk(stock_market(), wealth=(5, 1))
        desk.take("written", CALL, price=(0, 1))
        desk.settle([])
        self.shows(desk, capital=(5, 1), surplus=(0, 1))
        desk.go(numbers((1, 2)), child=1)
        self.shows(desk, capital=(15, 1), wealth=(15, 1))
        self.assertEqual(desk.settle([]), (15, 1))
        self.shows(desk, capital=(0, 1), wealth=(0, 1), is_settled=True, position=1, state=[[]])
        self.refuse(NotAChild, desk, ("go", numbers(0), 1))
        self.refuse(NotOpen, desk, ("settle", []))

    def test_no_game_when_settled(self):
        desk = self.desk()
        self.assertEqual(desk.game()[0], "ours")
        desk.settle([1, 0])
        with self.assertRaises(NotOpen):
            desk.game()


class Going(Judge):
    def market(self):
        """Three assets: one that can win or lose, one that is held only, one that stays as it is."""
        rules = ["any", "long", "any"]
        return (["a", "b", "c"], [], [
            node(-1, [100, 1, 1], growth=(2, 1), rules=rules), node(0, [240, 2, 2], rules=rules),
            node(0, [180, 2, 2], rules=rules), node(1, [240, 2, 2], rules=rules),
        ])

    def desk(self, wealth=5, settled=True):
        desk = Desk(self.market(), wealth=(wealth, 1))
        if settled:
            desk.settle([])
        return desk

    def test_to_each_child(self):
        desk = self.desk(10)
        self.assertEqual(call_kept(self, desk.go, numbers((1, 2), 0, 7), child=2), (10, 1))
        desk.undo()
        self.assertEqual(call_kept(self, desk.go, numbers((1, 2), 0, 7), child=1), (40, 1))
        desk = self.desk(10)
        self.assertEqual(desk.go(numbers(1, 3, -4), child=1), (60, 1))
        self.shows(desk, position=1, is_settled=False, wealth=(60, 1), can_undo=True, game=("end", (0, 1), []))
        self.assertEqual(desk.journal(), [("settle", []), ("go", numbers(1, 3, -4), 1)])
        desk.undo()
        self.assertEqual(desk.go(numbers(1, 3, -4), child=2), (0, 1))
        self.shows(desk, position=2, wealth=(0, 1))

    def test_each_two_errors_at_once(self):
        due = dict(enumerate([BadSize, BadNumber, NotSettled, NotAChild, BreaksRules, NotEnough], 1))
        for many in range(1, 7):
            for wrong in itertools.combinations(due, many):
                desk = self.desk(settled=3 not in wrong)
                holdings = [
                    (10 ** 9, 1) if 6 in wrong else (0, 1), (-1, 1) if 5 in wrong else (1, 1), (2, 4) if 2 in wrong else (1, 1),
                ] + ([(1, 1)] if 1 in wrong else [])
                self.refuse(due[min(wrong)], desk, ("go", holdings, 3 if 4 in wrong else 1))

    def test_wrong_things_one_by_one(self):
        desk = self.desk()
        for holdings in ([], numbers(0, 0), numbers(0, 0, 0, 0), [None, None]):
            self.refuse(BadSize, desk, ("go", holdings, 1))
        for each in NO_NUMBERS:
            for place in range(3):
                holdings = numbers(0, 0, 0)
                holdings[place] = each
                self.refuse(BadNumber, desk, ("go", holdings, 1))
        for child in (0, 3, -1, 4, 10 ** 9, True, False):
            self.refuse(NotAChild, desk, ("go", numbers(0, 0, 0), child))
        for amount in ((-1, 1), (-1, 10 ** 30)):
            self.refuse(BreaksRules, desk, ("go", [(0, 1), amount, (0, 1)], 1))

    def test_numbers_of_any_size(self):
        desk = self.desk()
        big = 10 ** 40
        self.assertEqual(desk.go([(1, big), (1, big), (big, 1)], child=1), (10 * big // 40 + 1, big // 40))
        self.assertEqual(desk.journal()[1], ("go", [(1, big), (1, big), (big, 1)], 1))

    def test_true_is_no_child(self):
        desk = Desk(stock_market(), wealth=(5, 1))
        desk.settle([])
        self.refuse(NotAChild, desk, ("go", numbers(0), True))
        self.assertEqual(desk.go(numbers(0), child=1), (5, 1))

    def test_enough_in_each_child(self):
        # Held 1/2 of the stock the call is covered in both children; less is short in one, more in the other one.
        for held, fits in (
            ((1, 2), True), (near((1, 2), TINY), False), (near((1, 2), -TINY), False), ((0, 1), False), ((1, 1), False),
        ):
            for child in (1, 2):
                desk = Desk(stock_market(), wealth=(5, 1))
                desk.take("written", CALL, price=(0, 1))
                desk.settle([])
                if fits:
                    self.assertEqual(desk.go([held], child=child), {1: (15, 1), 2: (0, 1)}[child])
                else:
                    self.refuse(NotEnough, desk, ("go", [held], child))

    def test_a_very_small_number_less(self):
        for off, fits in ((0, True), (-TINY, False)):
            desk = Desk(stock_market(), wealth=(20, 1))
            desk.settle([])
            # The wealth in the second child is 20 less 10 times the holdings.
            held = [near((2, 1), -off)]
            if fits:
                self.assertEqual(desk.go(held, child=1), (60, 1))
            else:
                self.refuse(NotEnough, desk, ("go", held, 1))

    def test_rules(self):
        for rule, fits in (("any", (-1, 0, 1)), ("long", (0, 1)), ("short", (-1, 0)), ("none", (0,))):
            for sign in (-1, 0, 1):
                desk = Desk(with_rule(rule), wealth=(50, 1))
                desk.settle([])
                if sign in fits:
                    desk.go(numbers(sign), child=1)
                    self.assertEqual(desk.wealth, (50 + 20 * sign, 1))
                else:
                    self.refuse(BreaksRules, desk, ("go", numbers(sign), 1))


class Undoing(Judge):
    def deeds(self):
        return [
            ("take", "written", EARLY, (30, 1)), ("take", "held", CALL, (0, 1)), ("settle", [1]), ("go", numbers(1), 1),
            ("take", "written", fixed(1), (2, 1)), ("settle", [0]), ("go", numbers((-1, 2)), 4), ("settle", []),
        ]

    def test_to_both_ends(self):
        desk = Desk(two_steps(), wealth=(30, 1))
        self.refuse(NothingToUndo, desk, ("undo",))
        self.refuse(NothingToRedo, desk, ("redo",))
        seen = [show(desk)]
        for deed in self.deeds():
            do(desk, deed)
            seen.append(show(desk))
        self.refuse(NothingToRedo, desk, ("redo",))
        names = ["position", "is_settled", "wealth", "book", "state", "capital", "surplus", "len", "game"]
        for turn in range(2):
            for place in reversed(range(len(seen) - 1)):
                self.assertIs(desk.undo(), None)
                self.shows(desk, **{name: seen[place][name] for name in names}, can_redo=True, can_undo=place > 0)
            self.refuse(NothingToUndo, desk, ("undo",))
            for place in range(1, len(seen)):
                self.assertIs(desk.redo(), None)
                last = place == len(seen) - 1
                self.shows(desk, **{name: seen[place][name] for name in names}, can_undo=True, can_redo=not last)
            self.refuse(NothingToRedo, desk, ("redo",))
        many = len(seen) - 1
        self.assertEqual(desk.journal(), self.deeds() + ([("undo",)] * many + [("redo",)] * many) * 2)

    def test_a_deed_takes_away_what_could_be_redone(self):
        for deed in (("take", "held", fixed(0), (0, 1)), ("settle", [])):
            desk = rich()
            desk.take("written", fixed(1), price=(1, 1))
            desk.take("written", fixed(2), price=(2, 1))
            desk.undo()
            do(desk, deed)
            self.refuse(NothingToRedo, desk, ("redo",))
            desk.undo()
            self.shows(desk, book=[("written", fixed(1))], can_redo=True)
            desk.redo()
            self.assertEqual(len(desk), 2 if deed[0] == "take" else 1)
        desk = rich()
        desk.settle([])
        desk.go(numbers(0), child=1)
        desk.undo()
        desk.go(numbers(1), child=2)
        self.refuse(NothingToRedo, desk, ("redo",))

    def test_a_refused_deed_does_not(self):
        desk = rich()
        desk.take("written", fixed(1), price=(1, 1))
        desk.take("written", fixed(2), price=(2, 1))
        desk.undo()
        for error, deed in (
            (BadSide, ("take", "both", CALL, (5, 1))), (NotEnough, ("take", "held", CALL, (10 ** 6, 1))), (BadMove, ("settle", [2])),
            (FewerMoves, ("settle", [0])), (NotSettled, ("go", numbers(0), 1)), (BadSize, ("go", [], 1)),
        ):
            self.refuse(error, desk, deed)
        desk.redo()
        self.shows(desk, len=2, can_redo=False)
        desk.settle([])
        desk.undo()
        desk.redo()
        for error, deed in ((NotOpen, ("settle", [])), (NotAChild, ("go", numbers(0), 7))):
            self.refuse(error, desk, deed)


class Together(Judge):
    def test_all_of_them(self):
        deeds = [
            ("take", "written", CALL, (5, 1)), ("settle", []), ("undo",), ("undo",), ("redo",), ("redo",), ("go", numbers((1, 2)), 1),
        ]
        desk, other = Desk(stock_market(), wealth=(0, 1)), Desk(stock_market(), wealth=(0, 1))
        self.assertIs(call_kept(self, desk.do_all, deeds), None)
        for deed in deeds:
            do(other, deed)
        self.assertEqual(show(desk), show(other))
        self.assertEqual(desk.journal(), deeds)
        self.shows(desk, position=1, wealth=(15, 1))
        self.assertIs(desk.do_all([]), None)
        self.assertEqual(show(desk), show(other))

    def test_an_error_in_the_middle(self):
        desk = Desk(two_steps(), wealth=(30, 1))
        desk.take("written", fixed(1), price=(1, 1))
        desk.take("written", fixed(2), price=(2, 1))
        desk.undo()
        before = show(desk)
        right = ("take", "held", fixed(0), (0, 1))
        for deeds, error in (
            ([right, ("redo",)], NothingToRedo), ([("redo",), ("redo",)], NothingToRedo), ([("undo",), ("undo",)], NothingToUndo),
            ([("undo",), right, ("take", "both", CALL, (5, 1))], BadSide), ([("settle", []), ("go", numbers(0), 3)], NotAChild),
            ([("settle", []), ("go", numbers(1), 1), ("settle", []), right], NotOpen),
            ([right, right, right, right], BadSize), ([right, ("settle", [0])], FewerMoves), ([("settle", [True]), right], BadMove),
            ([("redo",), ("undo",), ("undo",), ("settle", []), ("undo",), ("undo",)], NothingToUndo),
            ([("undo",), ("redo",), ("redo",), ("settle", []), ("go", numbers(10 ** 6), 1)], NotEnough),
        ):
            with self.assertRaises(error) as caught:
                call_kept(self, desk.do_all, deeds)
            self.assertIs(caught.exception.__class__, error)
            self.assertEqual(show(desk), before)
        desk.redo()
        self.shows(desk, book=[("written", fixed(1)), ("written", fixed(2))], can_redo=False)
        desk.undo()
        desk.undo()
        self.shows(desk, book=[], can_undo=False)

    def test_replaying(self):
        market = two_steps()
        journal = Undoing().deeds()
        journal[4:4] = [("undo",), ("undo",), ("redo",), ("undo",), ("settle", [1]), ("go", numbers(1), 1)]
        journal += [("undo",), ("undo",), ("redo",)]
        desk = Desk(market, wealth=(30, 1))
        for deed in journal:
            do(desk, deed)
        other = call_kept(self, replay, market, (30, 1), desk.journal())
        self.assertEqual(show(other), show(desk))
        self.assertTrue(desk.can_undo and desk.can_redo)
        while desk.can_undo:
            desk.undo()
            other.undo()
            self.assertEqual(show(other), show(desk))
        while desk.can_redo:
            desk.redo()
            other.redo()
            self.assertEqual(show(other), show(desk))
        self.assertEqual(show(replay(market, (7, 1), [])), show(Desk(market, wealth=(7, 1))))

    def test_the_first_wrong_entry(self):
        right = Undoing().deeds()
        wrong = [
            ("undo",), ("redo",), ("settle", [2]), ("settle", []), ("take", "both", CALL, (5, 1)), ("go", numbers(0), 1),
            ("go", [], 1), ("take", "held", CALL, (10 ** 6, 1)), ("take", "written", [], (1, 1)),
        ]
        for place in range(len(right) + 1):
            for entry in wrong:
                desk = Desk(two_steps(), wealth=(30, 1))
                desk.do_all(right[:place])
                try:
                    do(desk, entry)
                except HedgeError:
                    with self.assertRaises(BadEntry) as caught:
                        call_kept(self, replay, two_steps(), (30, 1), right[:place] + [entry, ("undo",), ("redo",), ("redo",)])
                    self.assertEqual(caught.exception.place, place)
                    self.assertIs(caught.exception.__class__, BadEntry)

    def test_what_a_desk_raises_comes_first(self):
        wrong = [("undo",)]
        for market, wealth, error in (
            (([], [], []), (1, 1), BadSize), (unfree_market(), (1, 1), NotFree), (stock_market(), (2, 4), BadNumber),
            (stock_market(), (-1, 1), Negative), (stock_market(), (1, 1), BadEntry),
        ):
            with self.assertRaises(error) as caught:
                call_kept(self, replay, market, wealth, wrong)
            self.assertIs(caught.exception.__class__, error)


class Apart(Judge):
    """What is handed in or returned may be changed afterwards."""

    def test_what_is_handed_in(self):
        market = two_steps()
        desk = Desk(market, wealth=(30, 1))
        other = Desk(two_steps(), wealth=(30, 1))
        contract, moves, holdings = copy.deepcopy(EARLY), [1], numbers(1)
        desk.take("written", contract, price=(30, 1))
        desk.settle(moves)
        desk.go(holdings, child=1)
        other.do_all([("take", "written", EARLY, (30, 1)), ("settle", [1]), ("go", numbers(1), 1)])
        for each in (market, contract, moves, holdings):
            spoil(each)
        self.assertEqual(show(desk), show(other))
        deeds = [("take", "held", copy.deepcopy(CALL), (1, 1)), ("settle", [1]), ("go", numbers(0), 3)]
        desk.do_all(deeds)
        other.do_all(copy.deepcopy(deeds))
        spoil(deeds)
        self.assertEqual(show(desk), show(other))
        while desk.can_undo:
            desk.undo()
            other.undo()
            self.assertEqual(show(desk), show(other))

    def test_what_is_returned(self):
        journal = [
            ("take", "written", copy.deepcopy(EARLY), (30, 1)), ("take", "held", copy.deepcopy(CALL), (1, 1)), ("settle", [1]),
            ("go", numbers(1), 1), ("undo",),
        ]
        desk = replay(two_steps(), (30, 1), journal)
        other = replay(two_steps(), (30, 1), copy.deepcopy(journal))
        spoil(journal)
        before = show(other)
        for _ in range(4):
            for each in (desk.book, desk.state, desk.journal(), show(desk)["game"]):
                spoil(each)
            self.assertEqual(show(desk), before)
            desk.undo()
            other.undo()
            before = show(other)
            if not desk.can_undo:
                break
        self.assertEqual(show(desk), show(other))

    def test_market_lists_are_copied_to_the_ground(self):
        market = stock_market()
        desk = Desk(market, wealth=(5, 1))
        market[2][1][3][0] = (999, 1)
        market[2][0][2][0] = "none"
        market[0][0] = "bond"
        market[2].append(node(0, [3]))
        desk.take("written", CALL, price=(0, 1))
        self.shows(desk, capital=(5, 1))
        desk.settle([])
        self.assertEqual(desk.go(numbers((1, 2)), child=1), (15, 1))


class Drawn(Judge):
    def deed(self, rng, desk):
        """A deed, mostly one that fits the desk."""
        market, spot = desk.market, desk.known[desk.now]
        place, word, wealth, book, state = spot
        below = second.children(market, place)
        kind = rng.choice(["take", "settle", "settle", "go", "go", "undo", "redo"])
        if kind == "take":
            contract = makers.contract(rng, market, rng.randint(1, 4))
            price = makers.small(rng, 40) if rng.random() < 0.9 else (2, 4)
            return (kind, rng.choice(["written", "held", "written", "held", "both"]), contract, price)
        if kind == "settle":
            if word == "open" and rng.random() < 0.9:
                return (kind, list(rng.choice(ends_of(game_of(market, book, place, state)))[0]))
            return (kind, [rng.choice([0, 1, 1, 0, 2, True]) for _ in range(rng.randint(0, 3))])
        if kind == "go":
            holdings = [makers.small(rng) for _ in market[0]]
            if word == "settled" and below and rng.random() < 0.8:
                values = [capital_at(market, book, node=child, state=state) for child in below]
                holdings = cost_of(market, place, values)[2]
            if rng.random() < 0.1:
                holdings = holdings[1:]
            return (kind, holdings, rng.choice(below + [0]))
        return (kind,)

    def test_beside_a_second_reading(self):
        rng = random.Random(73)
        raised = {}
        for _ in range(60):
            market = makers.free_market(rng, 8)
            wealth = (abs(makers.small(rng, 60)[0]), 1)
            desk, other = Desk(market, wealth=wealth), SecondDesk(market, wealth)
            for _ in range(25):
                deeds = [self.deed(rng, other) for _ in range(1 if rng.random() < 0.8 else 3)]
                if len(deeds) == 1:
                    error = self.both(lambda: do(desk, deeds[0]), lambda: other.do(deeds[0]))
                else:
                    error = self.both(lambda: desk.do_all(deeds), lambda: other.do_all(deeds))
                raised[error] = raised.get(error, 0) + 1
                self.assertEqual(show(desk), other.show())
            self.assertEqual(show(replay(market, wealth, desk.journal())), show(desk))
        for error in (None, NotEnough, NotOpen, NotSettled, NotAChild, BadMove, BadSide, BadNumber, BadSize, NothingToRedo, BreaksRules):
            self.assertGreater(raised.get(error, 0), 3, error)

    def both(self, one, two):
        """Both return the same, or raise the same error, which is returned."""
        told = []
        for function in (one, two):
            try:
                told.append((None, function()))
            except HedgeError as error:
                told.append((error.__class__, None))
        self.assertEqual(*told)
        return told[0][0]


class Kept(Judge):
    """Point 78."""

    def ends_with(self, game, theirs, moves=()):
        """The moves to each end that can be reached if the others choose as told."""
        if game[0] == "end":
            return [list(moves)]
        found = []
        for move in ([theirs[moves]] if game[0] == "theirs" else [0, 1]):
            found += self.ends_with(game[2 + move], theirs, moves + (move,))
        return found

    def least_moves(self, desk, theirs):
        """Moves of ours that lead to the lesser capital, and those of the others."""
        game = desk.game()
        moves = ()
        while game[0] != "end":
            if game[0] == "ours":
                both = [second.game_capital(self.market, desk.book, desk.position, each) for each in game[2:]]
                move = both.index(min(both))
            else:
                move = theirs[moves]
            game = game[2 + move]
            moves += (move,)
        return list(moves)

    def test_drawn_walks(self):
        rng = random.Random(78)
        self.found = {"ours": 0, "theirs": 0}
        for _ in range(60):
            self.market = makers.free_market(rng, 9)
            desk = Desk(self.market, wealth=(0, 1))
            for _ in range(rng.randint(1, 2)):
                self.take_at_cost(rng, desk)
            while True:
                self.settle_whatever(rng, desk)
                if not second.children(self.market, desk.position):
                    break
                self.go_to_each(rng, desk)
                if rng.random() < 0.4:
                    self.take_at_cost(rng, desk)
        self.assertGreater(self.found["ours"], 30)
        self.assertGreater(self.found["theirs"], 30)

    def take_at_cost(self, rng, desk):
        """Takes a drawn contract on at a price that just suffices, if it can be taken on."""
        side, contract = rng.choice(["written", "held"]), makers.contract(rng, self.market, 4)
        try:
            least = capital_at(
                self.market, desk.book + [(side, contract)], node=desk.position, state=desk.state + [[contract[0][0]]]
            )
            price = (Fraction(*least) - Fraction(*desk.wealth)) * (1 if side == "written" else -1)
            desk.take(side, contract, price=second.number_of(price))
        except (BadNumber, BadSize, TooManyChoices, TooManyNames, TooManyPairs):
            return
        self.assertEqual(desk.surplus(), (0, 1))

    def settle_whatever(self, rng, desk):
        """Whatever the others choose, some moves of ours are not refused; those of the lesser capital are made."""
        words = choices(desk.game())
        places = [place for place, word in words if word == "theirs"]
        for word in self.found:
            self.found[word] += [each for _, each in words].count(word)
        before = Fraction(*desk.surplus())
        told = list(itertools.product((0, 1), repeat=len(places)))
        for chosen in rng.sample(told, min(len(told), 6)):
            theirs = dict(zip(places, chosen))
            fits = 0
            for moves in self.ends_with(desk.game(), theirs):
                try:
                    desk.settle(moves)
                except NotEnough:
                    continue
                fits += 1
                desk.undo()
            self.assertGreater(fits, 0)
            desk.settle(self.least_moves(desk, theirs))
            self.assertGreaterEqual(Fraction(*desk.surplus()), before)
            desk.undo()
        desk.redo()

    def go_to_each(self, rng, desk):
        """Goes to each child with the same holdings, and stays at one of them."""
        below = second.children(self.market, desk.position)
        values = [capital_at(self.market, desk.book, node=child, state=desk.state) for child in below]
        holdings = cost_of(self.market, desk.position, values)[2]
        for child in below:
            desk.go(holdings, child=child)
            self.assertGreaterEqual(Fraction(*desk.surplus()), 0)
            desk.undo()
        desk.go(holdings, child=rng.choice(below))


def choices(game, moves=()):
    """The positions of all choices of a game, and whose they are."""
    if game[0] == "end":
        return []
    return [(moves, game[0])] + choices(game[2], moves + (0,)) + choices(game[3], moves + (1,))


class Greatest(Judge):
    def test_great_markets(self):
        rng = random.Random(75)
        begun = time.monotonic()
        small = [-1] + [0] * 6 + [1] * 6 + [7] * 6 + [13] * 5
        wide = [-1] + [0] * 6 + [1] * 6 + [7] * 6 + [13] * 6 + [2] * 6 + [3] * 6 + [4] * 6 + [5] * 6 + [6] * 6
        for parents, sides in ((small, ["written", "held", "written"]), (wide, ["written"]), (wide, ["held"])):
            market = makers.free_tree(rng, parents, 4)
            desk = Desk(market, wealth=(0, 1))
            for side in sides:
                self.take(desk, market, side)
            while second.children(market, desk.position):
                self.settle(desk)
                below = second.children(market, desk.position)
                values = [capital_at(market, desk.book, node=child, state=desk.state) for child in below]
                desk.go(cost_of(market, desk.position, values)[2], child=below[0])
            self.settle(desk)
            self.assertEqual(show(replay(market, (0, 1), desk.journal())), show(desk))
        self.assertLess(time.monotonic() - begun, 60)

    def take(self, desk, market, side):
        """Takes a contract on at a price that is just above its cost."""
        least = Fraction(*capital(market, desk.book + [(side, EARLY)])) - Fraction(*desk.wealth)
        price = Fraction(int(least * 1000) + 1, 1000)
        desk.take(side, EARLY, price=second.number_of(price if side == "written" else -price))

    def settle(self, desk):
        """Settles with the last moves that are not refused: to wait, if it can be done."""
        for moves, _, _ in reversed(ends_of(desk.game())):
            try:
                desk.settle(moves)
            except NotEnough:
                continue
            return
        self.fail("some moves are enough")


if __name__ == "__main__":
    unittest.main()
