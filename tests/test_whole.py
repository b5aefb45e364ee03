import random
import time
import unittest
from fractions import Fraction

from surehedge.capital import capital, capitals
from surehedge.errors import HedgeError, NotFree
from surehedge.games import game_of, reached
from surehedge.whole import is_covered, moves_that_matter, netting
from tests import makers, second
from tests.helpers import call_kept, check_new, node, stock_market
from tests.test_capital import CALL, EARLY, always, choice, either, fixed, pay, random_case, two_steps, unfree_market
from tests.test_moves import four_states
from tests.test_quotes import alone, numbers, trinomial, with_rule


class Netting(unittest.TestCase):
    def told(self, market, book, whole, parts, saved):
        found = check_new(self, netting, market, book)
        self.assertEqual(found, (numbers(whole)[0], numbers(*parts), numbers(saved)[0]))
        self.assertEqual(found[0], capital(market, book))

    def test_no_contract_and_one(self):
        for market in (stock_market(), trinomial(), alone(), two_steps()):
            self.told(market, [], 0, [], 0)
            self.told(market, [("written", fixed(3, 2))], (3, 2), [(3, 2)], 0)
            self.told(market, [("held", fixed(3, 2))], (-3, 2), [(-3, 2)], 0)
        self.told(stock_market(), [("written", CALL)], 5, [5], 0)
        self.told(trinomial(), [("held", CALL)], 0, [0], 0)

    def test_several(self):
        written, held = ("written", CALL), ("held", CALL)
        self.told(stock_market(), [written, held], 0, [5, -5], 0)
        self.told(trinomial(), [written, held], 0, [5, 0], 5)
        self.told(trinomial(), [held, written], 0, [0, 5], 5)
        self.told(trinomial(), [written, held, written], 5, [5, 0, 5], 5)
        self.told(trinomial(), [written, ("written", fixed(7)), held, ("held", always(1))], 5, [5, 7, 0, -2], 5)
        self.told(trinomial(), [written, written], 10, [5, 5], 0)

    def test_both_orders_where_it_counts(self):
        # Who chooses first shows the other side where to look for the greater payment.
        theirs, ours = ("written", either("a", "holder")), ("held", either("b", "holder"))
        self.told(with_rule("none"), [theirs, ours], 0, [1, 0], 1)
        self.told(with_rule("none"), [ours, theirs], 1, [0, 1], 0)

    def test_never_less_than_0(self):
        rng = random.Random(79)
        more = 0
        rain = [("a", ("both", ("pay", ("name", "rain")), ("next", "a")))]
        dry = [("a", ("both", ("pay", ("max", ("name", "rain"), ("number", (1, 1)))), ("next", "a")))]
        for turn in range(80):
            market, book = random_case(rng, 9, 2)
            if turn % 2:
                market = makers.free_tree(rng, [-1, 0, 0, 0, 1, 1, 1, 2, 2], 1)
                book = makers.book(rng, market, 1) + [("written", rain), ("held", dry)]
            for order in (book, book[::-1], book[1:] + book[:1]):
                try:
                    reached(market, order)
                except HedgeError:
                    continue
                whole, parts, saved = check_new(self, netting, market, order)
                states = [[[contract[0][0]]] for _, contract in order]
                expected = [second.capital(market, [each], 0, state) for each, state in zip(order, states)]
                self.assertEqual(second.fractions(parts), expected)
                self.assertEqual(Fraction(*whole), second.capital(market, order, 0, [each[0] for each in states]))
                self.assertEqual(Fraction(*saved), sum(expected) - Fraction(*whole))
                self.assertGreaterEqual(Fraction(*saved), 0)
                more += saved[0] > 0
        self.assertGreater(more, 30)


class Covered(unittest.TestCase):
    def test_at_0_above_and_below(self):
        for market in (stock_market(), trinomial(), alone()):
            for n, d, right in ((0, 1, True), (1, 999999999999, False), (-1, 999999999999, True), (5, 1, False), (-5, 1, True)):
                self.assertIs(call_kept(self, is_covered, market, [("written", fixed(n, d))]), right)
                self.assertIs(call_kept(self, is_covered, market, [("held", fixed(-n, d))]), right)
            self.assertIs(call_kept(self, is_covered, market, []), True)

    def test_what_is_written_is_kept_out_of_what_is_held(self):
        written, held = ("written", CALL), ("held", CALL)
        self.assertIs(is_covered(trinomial(), [written]), False)
        self.assertIs(is_covered(trinomial(), [held]), True)
        self.assertIs(is_covered(trinomial(), [written, held]), True)
        self.assertIs(is_covered(trinomial(), [written, held, ("written", fixed(1, 999999999999))]), False)
        self.assertIs(is_covered(stock_market(), [written, ("held", fixed(5))]), True)
        self.assertIs(is_covered(stock_market(), [written, ("held", fixed(4999999999, 1000000000))]), False)

    def test_drawn_books(self):
        rng = random.Random(80)
        found = []
        for _ in range(80):
            market, book = random_case(rng)
            found.append(call_kept(self, is_covered, market, book))
            self.assertIs(found[-1], Fraction(*capital(market, book)) <= 0)
        self.assertGreater(found.count(True), 15)
        self.assertGreater(found.count(False), 15)


class Matters(unittest.TestCase):
    def told(self, market, book, *expected):
        self.assertEqual(check_new(self, moves_that_matter, market, book), list(expected))

    def one(self, clause, side="written"):
        return [(side, [("a", clause)])]

    def test_games_without_a_choice(self):
        self.told(stock_market(), [], [], [], [])
        self.told(stock_market(), [("written", CALL)], [], [], [])
        self.told(alone(), [], [])
        self.told(alone(), [("held", fixed(4))], [])

    def test_one_choice(self):
        for first, second_one, least, most in (
            (1, 2, (True, False), (False, True)), (2, 1, (False, True), (True, False)), (3, 3, (True, True), (True, True)),
        ):
            for who, side in (("writer", "written"), ("holder", "held")):
                by = 1 if side == "written" else -1
                clause = choice(who, pay(by * first), pay(by * second_one))
                self.told(alone(), self.one(clause, side), [([], "ours") + least])
            for who, side in (("holder", "written"), ("writer", "held")):
                by = 1 if side == "written" else -1
                clause = choice(who, pay(by * first), pay(by * second_one))
                self.told(alone(), self.one(clause, side), [([], "theirs") + most])
        told = moves_that_matter(alone(), self.one(choice("writer", pay(1), pay(2))))[0][0]
        self.assertIs(told[2], True)
        self.assertIs(told[3], False)

    def test_nested_ones(self):
        # We choose; then the others choose between 1 and 5, or between 4 and 4; or we do between 7 and 2.
        clause = choice("writer", choice("holder", pay(1), pay(5)), choice("holder", pay(4), choice("writer", pay(7), pay(2))))
        self.told(alone(), self.one(clause), [
            ([], "ours", False, True), ([0], "theirs", False, True), ([1], "theirs", True, False), ([1, 1], "ours", False, True),
        ])
        clause = choice("holder", choice("holder", choice("writer", pay(3), pay(3)), pay(3)), choice("writer", pay(4), pay(3)))
        self.told(alone(), self.one(clause), [
            ([], "theirs", True, True), ([0], "theirs", True, True), ([0, 0], "ours", True, True), ([1], "ours", False, True),
        ])

    def test_both_moves_of_the_same_capital(self):
        # 6 here, or 3 in both children and 3 here.
        contract = [("a", choice("writer", pay(6), ("both", pay(3), ("next", "b")))), ("b", pay(3))]
        self.told(stock_market(), [("written", contract)], [([], "ours", True, True)], [], [], [], [])
        growing = stock_market()
        growing[2][0] = node(-1, [50], growth=(2, 1))
        self.told(growing, [("written", contract)], [([], "ours", False, True)], [], [], [], [])

    def test_what_is_paid_ahead_and_behind_counts_in_both(self):
        clause = ("both", pay(100), ("both", choice("writer", pay(1), pay(2)), pay(-50)))
        self.told(alone(), self.one(clause), [([], "ours", True, False)])
        # The two choices follow each other: the second one counts for itself.
        clause = ("both", choice("writer", pay(1), pay(2)), choice("holder", pay(3), pay(4)))
        self.told(alone(), self.one(clause), [
            ([], "ours", True, False), ([0], "theirs", False, True), ([1], "theirs", False, True),
        ])

    def test_each_pair(self):
        # At 120 the gain of 20 is the same as to wait; at 90 and 81 to wait costs more than to take less than 0.
        market = two_steps()
        found = check_new(self, moves_that_matter, market, [("written", EARLY)])
        pairs = reached(market, [("written", EARLY)])
        told = {place: rows for (place, state), rows in zip(pairs, found) if state == [["wait"]]}
        self.assertEqual([told[place] for place in (3, 4)], [[([], "theirs", True, False)]] * 2)
        self.assertEqual(told[6], [([], "theirs", False, True)])
        self.assertEqual(told[0], [([], "theirs", False, True)])
        for (_, state), rows in zip(pairs, found):
            self.assertEqual(len(rows), 1 if state == [["wait"]] else 0)

    def test_drawn_books(self):
        rng = random.Random(81)
        seen = {}
        for _ in range(100):
            market, book = random_case(rng, 7, 3, 4)
            found = check_new(self, moves_that_matter, market, book)
            pairs = reached(market, book)
            self.assertEqual(len(found), len(pairs))
            for (place, state), rows in zip(pairs, found):
                self.assertEqual([row[0] for row in rows], sorted(row[0] for row in rows))
                self.assertEqual(rows, self.expected(market, book, place, game_of(market, book, place, state)))
                for row in rows:
                    self.assertTrue(row[2] or row[3])
                    self.assertIs(row[2] in (True, False) and row[2].__class__ is row[3].__class__, True)
                    seen[row[1:]] = seen.get(row[1:], 0) + 1
        for side in ("ours", "theirs"):
            for which in ((True, False), (False, True), (True, True)):
                self.assertGreater(seen.get((side,) + which, 0), 10)

    def expected(self, market, book, place, game, position=()):
        """The choices from this position on, by fractions."""
        if game[0] == "end":
            return []
        both = [second.game_capital(market, book, place, each) for each in game[2:]]
        best = (min if game[0] == "ours" else max)(both)
        rows = [(list(position), game[0], both[0] == best, both[1] == best)]
        for move in (0, 1):
            rows += self.expected(market, book, place, game[2 + move], position + (move,))
        return rows


class Refused(unittest.TestCase):
    def test_the_first_node_that_is_not_free(self):
        market = unfree_market()
        for place in (1, 2):
            for book in ([], [("written", CALL)], [("held", CALL), ("written", EARLY)]):
                for function in (netting, is_covered, moves_that_matter):
                    with self.assertRaises(NotFree) as caught:
                        call_kept(self, function, market, book)
                    self.assertEqual(caught.exception.node, place)
            market[2].append(node(1, [110]))


class Greatest(unittest.TestCase):
    def test_great_books(self):
        rng = random.Random(82)
        begun = time.monotonic()
        parents = [-1] + [0] * 6 + [1] * 6 + [7] * 6 + [13] * 6 + [2] * 6 + [3] * 6 + [4] * 5
        for _ in range(3):
            market = makers.free_tree(rng, parents, 4)
            book = [("written", four_states())] + [("held", CALL), ("written", CALL), ("held", always(1))]
            self.assertGreater(len(reached(market, book)), 150)
            whole, _, saved = netting(market, book)
            self.assertGreaterEqual(Fraction(*saved), 0)
            self.assertEqual(whole, capitals(market, book)[0])
            self.assertEqual(len(moves_that_matter(market, book)), len(reached(market, book)))
        self.assertLess(time.monotonic() - begun, 60)


if __name__ == "__main__":
    unittest.main()
