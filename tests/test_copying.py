import random
import time
import unittest
from fractions import Fraction

from surehedge.copying import (
    against,
    copied_price,
    copies,
    copies_everything,
    copy_of,
    is_balances,
    opposite,
    plan_wealths,
    speak_against,
    uncopied,
)
from surehedge.errors import NotFree
from surehedge.prices import high_evidence, low_evidence, price_ends
from surehedge.weights import is_complete, unfree_node
from tests import makers, second, second_quotes
from tests.helpers import call_kept, check_new, node, stock_market
from tests.test_quotes import alone, numbers, three_steps, trinomial, two_steps, with_rule

CALL = numbers(0, 15, 0)
TINY = (1, 10 ** 30)


def unit(market, place, value=1):
    return [(value, 1) if node == place else (0, 1) for node in range(len(market[2]))]


def two_step_stock():
    """A stock that goes up or down twice, with growth other than 1."""
    return (["stock"], [], [
        node(-1, [100], growth=(11, 10)), node(0, [150], growth=(2, 1)), node(0, [100], growth=(1, 2)),
        node(1, [400]), node(1, [200]), node(2, [60], payouts=[2]), node(2, [40]),
    ])


class Plans(unittest.TestCase):
    def judge(self, market, payments, plan, right):
        self.assertIs(call_kept(self, copies, market, payments, plan), right)
        self.assertIs(second_quotes.copies(market, payments, plan), right)

    def test_opposite(self):
        self.assertEqual(check_new(self, opposite, numbers(1, 0, (-3, 2))), numbers(-1, 0, (3, 2)))
        self.assertEqual(opposite([]), [])
        self.assertEqual(opposite(opposite(CALL)), CALL)

    def test_wealths_worked_out_by_hand(self):
        plan = ((5, 1), [numbers((1, 2)), [], []])
        self.assertEqual(check_new(self, plan_wealths, stock_market(), CALL, plan), numbers(5, 0, 0))
        self.assertEqual(plan_wealths(stock_market(), numbers(1, 15, 2), plan), numbers(4, -1, -3))
        self.assertEqual(check_new(self, plan_wealths, alone(), numbers(3), ((5, 1), [[]])), numbers(2))
        # 10 - 1 = 9; 18 + 10 - 2 = 26, 18 - 5 - 3 = 10; 13 - 2 * 6 - 4 = -3; -9 - 10 / 3 - 5 = -52 / 3.
        plan = ((10, 1), [numbers(1), numbers(-2), [], numbers((1, 3)), []])
        told = check_new(self, plan_wealths, three_steps(), numbers(1, 2, 3, 4, 5), plan)
        self.assertEqual(told, numbers(9, 26, 10, -3, (-52, 3)))

    def test_wealths_of_drawn_plans(self):
        rng = random.Random(58)
        for _ in range(60):
            market = makers.market(rng)
            payments = makers.payments(rng, market)
            plan = (makers.small(rng), [
                [makers.small(rng) for _ in market[0]] if second.children(market, place) else []
                for place in range(len(market[2]))
            ])
            told = check_new(self, plan_wealths, market, payments, plan)
            self.assertEqual(second.fractions(told), second_quotes.plan_wealths(market, payments, plan))

    def test_plans_that_copy(self):
        self.judge(stock_market(), CALL, ((5, 1), [numbers((1, 2)), [], []]), True)
        self.judge(stock_market(), numbers(2, 15, 0), ((7, 1), [numbers((1, 2)), [], []]), True)
        self.judge(alone(), numbers(-4), ((-4, 1), [[]]), True)
        # One of the stock makes 50 and 0 in the children, then 200 and 0 out of the 50.
        market = two_step_stock()
        plan = ((100, 11), [numbers(1), numbers(1), numbers(0), [], [], [], []])
        self.judge(market, unit(market, 3, 200), plan, True)
        self.judge(market, numbers(0, 0, 0, 200, 0, 0, TINY), plan, False)
        self.judge(market, numbers(0, 50, 0, 100, -100, 0, 0), plan, True)
        self.judge(market, unit(market, 0, 3), ((3, 1), [numbers(0), numbers(0), numbers(0), [], [], [], []]), True)

    def test_one_thing_wrong(self):
        plan = ((5, 1), [numbers((1, 2)), [], []])
        for off in (TINY, (-1, 10 ** 30)):
            capital = second.number_of(5 + Fraction(*off))
            held = second.number_of(Fraction(1, 2) + Fraction(*off))
            self.judge(stock_market(), CALL, (capital, plan[1]), False)
            self.judge(stock_market(), CALL, (plan[0], [[held], [], []]), False)
            for place in (0, 1, 2):
                payments = list(CALL)
                payments[place] = second.number_of(Fraction(*CALL[place]) + Fraction(*off))
                self.judge(stock_market(), payments, plan, False)
        for lists in ([], plan[1][:2], plan[1] + [[]], [[], [], []], [numbers((1, 2), 0), [], []],
                      [numbers((1, 2)), numbers(0), []], [numbers((1, 2)), [], numbers(0)]):
            self.judge(stock_market(), CALL, (plan[0], lists), False)
        for lists in ([], [numbers(0)], [[], []]):
            self.judge(alone(), numbers(-4), ((-4, 1), lists), False)

    def test_holdings_keep_the_rules(self):
        plan = ((5, 1), [numbers((1, 2)), [], []])
        debt = ((-5, 1), [numbers((-1, 2)), [], []])
        for rule, right in (("any", (True, True)), ("long", (True, False)), ("short", (False, True)), ("none", (False, False))):
            self.judge(with_rule(rule), CALL, plan, right[0])
            self.judge(with_rule(rule), opposite(CALL), debt, right[1])

    def test_wealth_at_inner_nodes_does_not_count(self):
        market = three_steps()
        plan = ((10, 1), [numbers(1), numbers(-2), [], numbers((1, 3)), []])
        payments = numbers(1, 2, 13, 4, (-37, 3))
        self.judge(market, payments, plan, True)


class Balances(unittest.TestCase):
    def judge(self, market, balances, right):
        self.assertIs(call_kept(self, is_balances, market, balances), right)
        self.assertIs(second_quotes.is_balances(market, balances), right)

    def test_nothing_but_0(self):
        for market in (stock_market(), trinomial(), alone(), two_steps(), three_steps()):
            self.judge(market, numbers(*[0] * len(market[2])), True)

    def test_right_ones(self):
        self.judge(trinomial(), numbers(0, 1, -3, 2), True)
        self.judge(trinomial(), numbers(0, (-1, 3), 1, (-2, 3)), True)
        market = two_steps()
        market[2][1][2][3] = "none"
        self.judge(market, numbers(0, 0, 0, 1, -1), True)
        self.judge(with_rule("none"), numbers(0, 5, -5), True)

    def test_one_thing_wrong(self):
        for balances in (
            numbers(1, 1, -3, 2), numbers(0, 1, -2, 2), numbers(0, 2, -3, 1), numbers(0, 1, -3, (5, 2)),
            numbers(0, 1, -3), numbers(0, 1, -3, 2, 0), numbers(), numbers(0), numbers(1, (1, 3), 0, (2, 3)),
            numbers(TINY, 1, -3, 2), numbers(0, 1, -3, (2 * 10 ** 30 + 1, 10 ** 30)),
        ):
            self.judge(trinomial(), balances, False)
        self.judge(alone(), numbers(1), False)
        self.judge(alone(), [], False)
        self.judge(alone(), numbers(0, 0), False)

    def test_each_rule_on_either_side_of_0(self):
        for rule, sides in (("any", (0,)), ("long", (-1, 0)), ("short", (0, 1)), ("none", (-1, 0, 1))):
            for side in (-1, 0, 1):
                # The gains are 20 and -10, the numbers together 0.
                for size in (1, Fraction(1, 10 ** 30)):
                    much = side * size
                    self.judge(with_rule(rule), [(0, 1), second.number_of(Fraction(much)), second.number_of(Fraction(-much))], side in sides)

    def test_growth_counts(self):
        market = two_step_stock()
        for node_, place in ((1, 3), (2, 5)):
            market[2][node_][2][0] = "none"
            balances = numbers(0, 0, 0, 0, 0, 0, 0)
            balances[place] = (1, 1)
            balances[place + 1] = (-1, 1)
            self.judge(market, balances, True)
            balances[node_] = (1, 1)
            self.judge(market, balances, False)
        market[2][0][2][0] = "none"
        self.judge(market, numbers(0, 2, -2, 1, 0, -1, -3), True)
        self.judge(market, numbers(0, 2, -2, 1, 0, -1, -1), False)
        self.judge(market, numbers(0, 1, -1, 1, 0, -1, -1), False)

    def test_what_speaks_against_payments(self):
        def judge(market, payments, balances, right):
            self.assertIs(call_kept(self, speak_against, market, payments, balances), right)
            self.assertIs(second_quotes.speak_against(market, payments, balances), right)

        payments = numbers(0, 15, 0, 0)
        judge(trinomial(), payments, numbers(0, 1, -3, 2), True)
        judge(trinomial(), payments, numbers(0, TINY, (-3, 10 ** 30), (2, 10 ** 30)), True)
        judge(trinomial(), payments, numbers(0, -1, 3, -2), False)
        judge(trinomial(), payments, numbers(0, 0, 0, 0), False)
        judge(trinomial(), numbers(0, 3, 1, 0), numbers(0, 1, -3, 2), False)
        judge(trinomial(), numbers(0, 3, 1, TINY), numbers(0, 1, -3, 2), True)
        judge(trinomial(), payments, numbers(0, 1, -3, 3), False)
        judge(trinomial(), payments, numbers(1, 1, -3, 2), False)
        judge(trinomial(), payments, numbers(0, 1, -3), False)
        judge(trinomial(), payments, numbers(0, 1, -3, 2, 0), False)
        judge(trinomial(), payments, [], False)
        judge(trinomial(), numbers(9, 0, 0, 0), numbers(0, 1, -3, 2), False)
        judge(alone(), numbers(5), numbers(0), False)


class Copies(unittest.TestCase):
    """copy_of and against: just one of them is None."""

    def judge(self, market, payments, right=None):
        plan = check_new(self, copy_of, market, payments)
        balances = check_new(self, against, market, payments)
        if right is not None:
            self.assertIs(plan is not None, right)
        if plan is None:
            self.assertTrue(second_quotes.speak_against(market, payments, balances), balances)
            self.assertIs(speak_against(market, payments, balances), True)
        else:
            self.assertIsNone(balances)
            self.assertTrue(second_quotes.copies(market, payments, plan), plan)
            self.assertIs(copies(market, payments, plan), True)
        return plan

    def test_payments_that_are_copied(self):
        self.assertEqual(self.judge(stock_market(), CALL, True), ((5, 1), [numbers((1, 2)), [], []]))
        self.assertEqual(self.judge(alone(), numbers((-7, 2)), True), ((-7, 2), [[]]))
        self.judge(trinomial(), numbers(0, 20, 0, -10), True)
        self.judge(trinomial(), numbers(7, 0, 0, 0), True)
        self.judge(two_step_stock(), numbers(1, 2, 3, 4, 5, 6, 7), True)

    def test_payments_that_are_not(self):
        self.judge(trinomial(), numbers(0, 15, 0, 0), False)
        self.judge(trinomial(), numbers(0, 20, TINY, -10), False)
        self.judge(with_rule("none"), CALL, False)
        self.judge(with_rule("none"), numbers(3, 5, 5), True)

    def test_payments_copied_only_one_way(self):
        for rule, right in (("long", (True, False)), ("short", (False, True))):
            self.judge(with_rule(rule), CALL, right[0])
            self.judge(with_rule(rule), opposite(CALL), right[1])

    def test_markets_that_are_not_free(self):
        market = (["stock"], [], [node(-1, [100]), node(0, [120]), node(0, [110])])
        self.judge(market, numbers(0, 1, 0), True)
        self.judge(three_steps(), numbers(1, 2, 3, 4, 5), True)
        market[2][2][3][0] = (120, 1)
        self.judge(market, numbers(0, 1, 0), False)
        self.judge(market, numbers(0, 1, 1), True)

    def test_numbers_of_any_size(self):
        big = 10 ** 40
        self.judge(stock_market(), numbers(big, (1, big), -big), True)
        self.judge(trinomial(), numbers(0, (1, big), 0, 0), False)
        self.judge(trinomial(), numbers(big, 20 * big, 0, -10 * big), True)

    def test_drawn_ones(self):
        rng = random.Random(60)
        found = []
        for turn in range(150):
            market = makers.market(rng) if turn < 50 else makers.free_market(rng, 12, rng.randint(1, 3))
            found.append(self.judge(market, makers.payments(rng, market)) is not None)
            found.append(self.judge(market, self.copied_payments(rng, market), True) is not None)
        self.assertGreater(found.count(False), 40)

    def copied_payments(self, rng, market):
        """Payments that a drawn plan copies."""
        lists = []
        for place, row in enumerate(market[2]):
            held = []
            for rule in row[2] if second.children(market, place) else []:
                many = abs(makers.small(rng)[0])
                held.append(({"any": rng.choice([-many, many]), "long": many, "short": -many, "none": 0}[rule], 1))
            lists.append(held)
        payments = makers.payments(rng, market)
        wealths = second_quotes.plan_wealths(market, payments, (makers.small(rng), lists))
        for place in range(len(market[2])):
            if not second.children(market, place):
                payments[place] = second.number_of(Fraction(*payments[place]) + wealths[place])
        return payments

    def test_the_greatest_ones(self):
        rng = random.Random(61)
        begun = time.monotonic()
        fans = [-1, 0, 0, 0, 0, 0, 0, 1, 1, 1, 1, 1]
        for parents, rules in (
            (fans, ["any"]), (fans, ["long", "short"]), (list(range(-1, 11)), ["long", "short"]),
            ([-1, 0, 0, 0, 1, 1, 1, 2, 2, 2, 3, 3], ["long", "short"]),
        ):
            market = makers.greatest_market(rng, parents, rules=rules)
            self.judge(market, [makers.wide(rng) for _ in parents])
            told = uncopied(market)
            self.assertIs(told is None, copies_everything(market))
            if told is not None:
                self.judge(market, told, False)
        self.assertLess(time.monotonic() - begun, 60)


class Price(unittest.TestCase):
    def judge(self, market, payments, price):
        told = check_new(self, copied_price, market, payments)
        self.assertEqual(told, price)
        low, _, high, _ = price_ends(market, [], payments)
        self.assertEqual(low == high, told is not None)
        if told is not None:
            self.assertEqual(low, told)
            # What shows that the ends are no further off are plans with these capitals.
            plan = (told, high_evidence(market, [], payments)[3][2])
            self.assertTrue(second_quotes.copies(market, payments, plan))
            plan = ((-told[0], told[1]), low_evidence(market, [], payments)[3][2])
            self.assertTrue(second_quotes.copies(market, opposite(payments), plan))

    def test_payments_with_a_price(self):
        self.judge(stock_market(), CALL, (5, 1))
        self.judge(stock_market(), numbers(2, 15, 0), (7, 1))
        self.judge(trinomial(), numbers(0, 20, 0, -10), (0, 1))
        self.judge(alone(), numbers((-7, 2)), (-7, 2))
        self.judge(with_rule("none"), numbers(1, 2, 2), (3, 1))
        self.judge(two_step_stock(), numbers(0, 110, 110, 0, 0, 0, 0), (100, 1))
        self.judge(stock_market(), numbers(0, 3 * 10 ** 40, 0), (10 ** 40, 1))

    def test_payments_that_are_copied_only_one_way(self):
        for rule in ("long", "short"):
            self.judge(with_rule(rule), CALL, None)
            self.judge(with_rule(rule), opposite(CALL), None)
            self.judge(with_rule(rule), numbers(1, 2, 2), (3, 1))

    def test_payments_without_a_plan(self):
        self.judge(trinomial(), numbers(0, 15, 0, 0), None)
        self.judge(with_rule("none"), CALL, None)

    def test_a_rule_that_does_not_bind(self):
        # Held for nothing: the gain of the other asset is the same, so it can be owed instead.
        market = (["a", "b"], [], [
            node(-1, [100, 100], rules=["long", "short"]), node(0, [120, 120]), node(0, [90, 90]),
        ])
        self.judge(market, CALL, (5, 1))

    def test_not_free(self):
        rising = (["stock"], [], [node(-1, [100]), node(0, [120]), node(0, [100])])
        with self.assertRaises(NotFree) as caught:
            call_kept(self, copied_price, rising, CALL)
        self.assertEqual(caught.exception.node, 0)
        market = (["stock"], [], [node(parent, [100]) for parent in (-1, 0, 0, 1, 2, 2)])
        market[2][5][3][0] = (101, 1)
        for first, change in ((2, None), (1, 3)):
            if change is not None:
                market[2][change][3][0] = (101, 1)
            with self.assertRaises(NotFree) as caught:
                copied_price(market, numbers(0, 0, 0, 0, 0, 0))
            self.assertEqual(caught.exception.node, first)

    def test_no_other_function_raises_it(self):
        rising = (["stock"], [], [node(-1, [100]), node(0, [120]), node(0, [100])])
        self.assertIsNotNone(copy_of(rising, CALL))
        self.assertIsNone(against(rising, CALL))
        self.assertIs(copies_everything(rising), True)
        self.assertIsNone(uncopied(rising))

    def test_drawn_ones(self):
        rng = random.Random(62)
        found = []
        for _ in range(120):
            market = makers.free_market(rng, 7, rng.randint(1, 3))
            payments = makers.payments(rng, market)
            if rng.random() < 0.5:
                payments = Copies().copied_payments(rng, market)
            price = copied_price(market, payments)
            found.append(price is None)
            self.judge(market, payments, price)
            both = copy_of(market, payments) and copy_of(market, opposite(payments))
            if price is None and both:
                self.assertNotEqual(both[0], (-copy_of(market, payments)[0][0], both[0][1]))
        self.assertGreater(found.count(True), 30)
        self.assertGreater(found.count(False), 30)


class Everything(unittest.TestCase):
    def judge(self, market, right=None):
        everything = call_kept(self, copies_everything, market)
        payments = check_new(self, uncopied, market)
        if right is not None:
            self.assertIs(everything, right)
        self.assertIs(payments is None, everything)
        if payments is not None:
            self.assertEqual(len(payments), len(market[2]))
            self.assertIsNone(copy_of(market, payments))
            self.assertTrue(second_quotes.speak_against(market, payments, against(market, payments)))
        return everything

    def test_markets_that_copy_everything(self):
        self.judge(stock_market(), True)
        self.judge(alone(), True)
        self.judge(two_step_stock(), True)
        self.judge(three_steps(), True)
        self.judge((["a", "b"], [], [node(-1, [1, 1], rules=["long", "short"]), node(0, [2, 2]), node(0, [0, 0])]), True)
        self.judge((["a"], [], [node(-1, [1], rules=["none"]), node(0, [5])]), True)

    def test_markets_that_do_not(self):
        self.judge(trinomial(), False)
        for rule in ("long", "short", "none"):
            self.judge(with_rule(rule), False)
        self.judge((["a", "b"], [], [node(-1, [1, 1], rules=["long", "long"]), node(0, [2, 2]), node(0, [0, 0])]), False)
        market = two_step_stock()
        market[2][2][2][0] = "long"
        self.judge(market, False)
        market = two_step_stock()
        market[2][5][3][0] = (38, 1)
        self.judge(market, False)

    def test_balances_only_one_way(self):
        # All balances are those of one leaf above 0: payments of -1 there are copied, of 1 not.
        market = with_rule("short")
        self.assertIsNotNone(copy_of(market, unit(market, 1, -1)))
        self.assertIsNone(copy_of(market, unit(market, 1)))
        self.judge(market, False)

    def test_in_free_markets_complete_ones_copy_everything(self):
        rng = random.Random(63)
        found = []
        for _ in range(100):
            market = makers.free_market(rng, 7, rng.randint(1, 4))
            if rng.random() < 0.3:
                for row in market[2]:
                    row[2][:] = ["any"] * len(row[2])
            everything = self.judge(market)
            found.append(everything)
            if unfree_node(market) is None and all(rule in ("any", "none") for row in market[2] for rule in row[2]):
                self.assertIs(everything, is_complete(market))
        self.assertGreater(found.count(True), 15)
        self.assertGreater(found.count(False), 15)

    def test_drawn_markets(self):
        rng = random.Random(64)
        for _ in range(80):
            self.judge(makers.market(rng))


if __name__ == "__main__":
    unittest.main()
