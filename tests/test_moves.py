import random
import time
import unittest
from fractions import Fraction

from surehedge.capital import capital
from surehedge.errors import HedgeError, NotFree, TooManyChoices, TooManyNames, TooManyPairs
from surehedge.games import reached
from surehedge.lines import first_slope, is_line, value_at
from surehedge.markets import path_to
from surehedge.moves import capital_with, down_line, up_line
from tests import makers, second
from tests.helpers import call_kept, check_new, node, stock_market, tree
from tests.test_capital import CALL, EARLY, always, choice, fixed, pay, random_case, two_steps, unfree_market
from tests.test_lines import is_one, pieces, places, told
from tests.test_quotes import numbers, trinomial

BIG = 10 ** 30


def grown_steps():
    """Two steps with growth other than 1: 100 goes to 120 or 90 times 5/4, then twice as far."""
    return (["stock"], [], [
        node(-1, [100], growth=(5, 4)), node(0, [150], growth=(2, 1)), node(0, [100], growth=(1, 2)),
        node(1, [400]), node(1, [200]), node(2, [60]), node(2, [40]),
    ])


def growth_to(market, place):
    """The product of the growths on the way to a node, the node itself not counted."""
    product = Fraction(1)
    for each in path_to(market, place)[:-1]:
        product *= Fraction(*market[2][each][1])
    return product


def right_or_left(who):
    """Who chooses at the root, and then the contract pays 6 at the one leaf or 6 at the other one."""
    above = ("compare", ">", ("name", "stock"), ("number", (100, 1)))
    return [
        ("a", choice(who, ("next", "up"), ("next", "down"))),
        ("up", ("if", above, pay(6), ("nothing",))),
        ("down", ("if", above, ("nothing",), pay(6))),
    ]


def drawn_book(rng, market):
    """A book for which reached raises nothing."""
    while True:
        book = makers.book(rng, market, 3, 4)
        try:
            reached(market, book)
        except HedgeError:
            continue
        return book


def four_states():
    """Four names, one of which is in force at each node; both sides choose which one is next."""
    below = choice(
        "holder",
        choice("writer", ("next", "a"), ("both", pay(1), ("next", "b"))),
        choice("writer", ("next", "c"), ("both", pay(2), ("next", "d"))),
    )
    claims = {
        "a": ("name", "stock"), "b": ("times", (1, 3), ("name", "stock")), "c": ("times", (-2, 7), ("name", "rain")),
        "d": ("max", ("name", "stock"), ("name", "rain")),
    }
    return [(name, ("both", ("pay", claim), below)) for name, claim in claims.items()]


class Moved(unittest.TestCase):
    def judge(self, market, book, place):
        """Tests the lines of one node: their form, their slopes, and what they tell."""
        up = check_new(self, up_line, market, book, place)
        down = check_new(self, down_line, market, book, place)
        most = 1 / growth_to(market, place)
        for line, sign in ((up, 1), (down, -1)):
            self.assertIs(is_line(line), True)
            self.assertTrue(is_one(line))
            for x in places(line):
                amount = second.number_of(sign * x)
                self.assertEqual(Fraction(*capital_with(market, book, place, amount)), told(line, x))
            for _, _, slope in line:
                self.assertLessEqual(0, sign * Fraction(*slope))
                self.assertLessEqual(sign * Fraction(*slope), most)
        self.assertEqual(value_at(up, (0, 1)), capital(market, book))
        self.assertEqual(value_at(down, (0, 1)), capital(market, book))
        slope, length = first_slope(up)
        for part in (Fraction(1, 3), Fraction(1)):
            x = part * (BIG if length is None else Fraction(*length))
            grown = Fraction(*capital_with(market, book, place, second.number_of(x))) - Fraction(*capital(market, book))
            self.assertEqual(grown, Fraction(*slope) * x)
        return (up, down)

    def amounts(self, market, book, place, *rows):
        for amount, expected in rows:
            found = call_kept(self, capital_with, market, book, place, numbers(amount)[0])
            self.assertEqual([found], numbers(expected), (place, amount))

    def test_amounts_by_hand(self):
        book = [("written", CALL)]
        self.amounts(stock_market(), book, 0, (3, 8), (0, 5), (-7, -2), ((1, BIG), (5 * BIG + 1, BIG)))
        self.amounts(stock_market(), book, 1, (3, 6), (0, 5), (-15, 0), (-30, -5))
        self.amounts(stock_market(), book, 2, (3, 7), (0, 5), (-3, 3), ((1, 2), (16, 3)))
        self.amounts(two_steps(), [("written", always(1))], 1, (3, 4), (0, 3), (-3, 2))
        self.amounts(two_steps(), [("written", always(1))], 4, (9, 5), (0, 3), (-9, 1))
        self.amounts(tree([-1]), [("held", fixed(4))], 0, (1, -3), (0, -4), (-1, -5))
        self.amounts(stock_market(), [], 1, (3, 1), (0, 0), (-3, -1))

    def test_amounts_where_it_cannot_be_copied(self):
        # In the middle 5 can be paid before it counts at all.
        book = [("written", CALL)]
        self.amounts(trinomial(), book, 2, (3, 5), (5, 5), (6, 6), (-1, 5), (-BIG, 5))
        self.amounts(trinomial(), book, 1, (3, 6), (-15, 0), (-16, 0), (-3, 4))
        self.amounts(trinomial(), book, 3, (3, 7), (-6, 1), (-8, 0), ((-15, 2), 0))
        self.assertEqual(self.judge(trinomial(), book, 2), (pieces((0, 5, 0), (5, 5, 1)), pieces((0, 5, 0))))
        self.assertEqual(self.judge(trinomial(), book, 1), (pieces((0, 5, (1, 3))), pieces((0, 5, (-1, 3)), (15, 0, 0))))
        self.assertEqual(self.judge(trinomial(), book, 3), (pieces((0, 5, (2, 3))), pieces((0, 5, (-2, 3)), ((15, 2), 0, 0))))
        self.assertEqual(self.judge(trinomial(), book, 0), (pieces((0, 5, 1)), pieces((0, 5, -1))))

    def test_lines_where_all_is_copied(self):
        for place, slope in ((0, 1), (1, (1, 3)), (2, (2, 3))):
            minus = (-slope, 1) if isinstance(slope, int) else (-slope[0], slope[1])
            expected = (pieces((0, 5, slope)), [((0, 1), (5, 1), minus)])
            self.assertEqual(self.judge(stock_market(), [("written", CALL)], place), expected)

    def test_growth_other_than_1(self):
        market = grown_steps()
        # Shares of the children: half and half at each node.
        for place, slope in ((0, 1), (1, (2, 5)), (2, (2, 5)), (3, (1, 10)), (4, (1, 10)), (5, (2, 5)), (6, (2, 5))):
            up, _ = self.judge(market, [("written", CALL)], place)
            self.assertEqual(up[0][2], numbers(slope)[0])
        market[2][0][2][0] = market[2][1][2][0] = "none"
        up, down = self.judge(market, [], 3)
        self.assertEqual(up, pieces((0, 0, (2, 5))))
        self.assertEqual(down, pieces((0, 0, 0)))

    def test_choices_of_both_sides(self):
        market = stock_market()
        market[2][0][2][0] = "none"
        # Written: the others take 6 where it costs most. Held: we take it where more is paid.
        others = [("written", right_or_left("holder"))]
        self.assertEqual(self.judge(market, others, 1), (pieces((0, 6, 1)), pieces((0, 6, 0))))
        ours = [("written", right_or_left("writer"))]
        expected = (pieces((0, 6, 0), (6, 6, 1)), pieces((0, 6, -1), (6, 0, 0)))
        self.assertEqual(self.judge(market, ours, 1), expected)
        ours = [("held", right_or_left("holder"))]
        expected = (pieces((0, 0, 0), (6, 0, 1)), pieces((0, 0, -1), (6, -6, 0)))
        self.assertEqual(self.judge(market, ours, 1), expected)
        others = [("held", right_or_left("writer"))]
        self.assertEqual(self.judge(market, others, 1), (pieces((0, 0, 1)), pieces((0, 0, 0))))

    def test_several_states_at_the_node(self):
        # At nodes 1 and 2 the contract is in force or over; the amount is paid in both states.
        market = two_steps()
        for side in ("written", "held"):
            for place in range(7):
                self.judge(market, [(side, EARLY)], place)
        self.assertEqual(len([1 for place, _ in reached(market, [("written", EARLY)]) if place == 1]), 2)
        self.amounts(market, [("written", EARLY), ("held", EARLY)], 1, (6, 2), (-6, -2))

    def test_drawn_books(self):
        rng = random.Random(65)
        bent = 0
        for _ in range(60):
            market = makers.free_tree(rng, [-1, 0, 0, 0, 1, 1, 1, 2, 2], rng.randint(1, 2))
            book = drawn_book(rng, market)
            place = rng.randrange(len(market[2]))
            up, down = self.judge(market, book, place)
            bent += len(up) > 1 or len(down) > 1
        self.assertGreater(bent, 10)

    def test_drawn_books_beside_a_second_reading(self):
        rng = random.Random(66)
        for _ in range(60):
            market, book = random_case(rng, most_nodes=7)
            for _ in range(3):
                place = rng.randrange(len(market[2]))
                amount = rng.choice([(0, 1), makers.small(rng), makers.small(rng, 100), (BIG, 1), (-1, BIG)])
                state = [[contract[0][0]] for _, contract in book]
                expected = second.capital(market, book, 0, state, (place, Fraction(*amount)))
                self.assertEqual(Fraction(*call_kept(self, capital_with, market, book, place, amount)), expected)

    def test_books_with_choices_of_both_sides(self):
        rng = random.Random(67)
        kinks = 0
        for turn in range(12):
            market = makers.free_tree(rng, [-1, 0, 0, 0, 1, 1, 2, 2, 3], 1)
            book = [(rng.choice(["written", "held"]), four_states())]
            for place in (0, 2, 5, 8):
                up, down = self.judge(market, book, place)
                kinks += len(up) > 2 or len(down) > 2
        self.assertGreater(kinks, 3)


class Refused(unittest.TestCase):
    def each(self, market, book, place):
        """Each of the three functions, ready to be called."""
        yield lambda: call_kept(self, capital_with, market, book, place, (1, 1))
        yield lambda: call_kept(self, up_line, market, book, place)
        yield lambda: call_kept(self, down_line, market, book, place)

    def five(self):
        clause = ("nothing",)
        for _ in range(5):
            clause = choice("holder", clause, clause)
        return [("written", [("a", clause)])]

    def test_the_first_node_that_is_not_free(self):
        for place in (1, 2):
            market = unfree_market()
            if place == 2:
                market[2].append(node(1, [110]))
            for book in ([], [("written", CALL)], self.five()):
                for other in range(len(market[2])):
                    for function in self.each(market, book, other):
                        with self.assertRaises(NotFree) as caught:
                            function()
                        self.assertEqual(caught.exception.node, place)

    def test_what_reached_raises(self):
        nine = ("next", "a")
        for _ in range(8):
            nine = ("both", ("next", "a"), nine)
        wide = tree([-1] + [0] * 6 + [1] * 6 + [2] * 6 + [3] * 6 + [4] * 6 + [5] * 6 + [6] * 6)
        for row in wide[2]:
            row[3][0] = (100, 1)
        for error, market, book in (
            (TooManyChoices, stock_market(), self.five()),
            (TooManyNames, stock_market(), [("written", [("a", nine)])]),
            (TooManyPairs, wide, [("written", four_states_of_next())] * 2),
        ):
            for place in range(3):
                for function in self.each(market, book, place):
                    with self.assertRaises(error):
                        function()


def four_states_of_next():
    """Four names, and all choices which one is next."""
    below = choice("holder", choice("writer", ("next", "a"), ("next", "b")), choice("writer", ("next", "c"), ("next", "d")))
    return [(name, below) for name in "abcd"]


class Greatest(unittest.TestCase):
    def test_four_states_and_four_steps(self):
        rng = random.Random(68)
        begun = time.monotonic()
        longest = 0
        for assets, parents in (
            (1, [-1] + [0] * 3 + [1, 1, 1, 2, 2, 2, 3, 3, 3] + [4] * 3 + [8] * 3 + [12] * 3 + [13] * 6 + [16] * 6 + [20] * 6),
            (2, [-1] + [0] * 3 + [1, 1, 1, 2, 2, 2, 3, 3, 3] + [4] * 6 + [8] * 6 + [13] * 6 + [19] * 6),
            (4, [-1] + [0] * 6 + [1] * 6 + [7] * 6 + [13] * 6 + [18] * 6),
        ):
            market = makers.free_tree(rng, parents, assets)
            for side in ("written", "held"):
                book = [(side, four_states())]
                states = [place for place, _ in reached(market, book)]
                self.assertEqual(max(states.count(place) for place in states), 4)
                for place in (len(parents) - 1, 13, 1, 0):
                    up, down = up_line(market, book, place), down_line(market, book, place)
                    longest = max(longest, len(up), len(down))
                    for line, sign in ((up, 1), (down, -1)):
                        self.assertTrue(is_line(line))
                        x = second.number_of(Fraction(*line[-1][0]) + 1)
                        self.assertEqual(value_at(line, x), capital_with(market, book, place, (sign * x[0], x[1])))
        self.assertGreater(longest, 3)
        self.assertLess(time.monotonic() - begun, 60)


class Newness(unittest.TestCase):
    def test_books_that_raise_no_error_are_left_as_they_are(self):
        rng = random.Random(69)
        for _ in range(10):
            try:
                market, book = random_case(rng)
                check_new(self, up_line, market, book, len(market[2]) - 1)
                check_new(self, down_line, market, book, 0)
            except HedgeError:
                self.fail("no error is due")


if __name__ == "__main__":
    unittest.main()
