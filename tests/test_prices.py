import copy
import random
import time
import unittest
from fractions import Fraction

from surehedge.errors import NotFreeTogether
from surehedge.prices import (
    high_evidence,
    is_high_evidence,
    is_low_evidence,
    is_price,
    low_evidence,
    price_ends,
)
from surehedge.quotes import positive_masses
from tests import makers, second, second_quotes
from tests.helpers import call_kept, check_new, full, node, stock_market
from tests.test_quotes import alone, fair_masses, numbers, quote, three_steps, trinomial, two_steps, with_rule

CALL = numbers(0, 15, 0)
LEAST = Fraction(1, 10 ** 30)


def near(price, off):
    return second.number_of(Fraction(*full(price)) + off)


def rising():
    """A market that is not free: the stock never falls."""
    return (["stock"], [], [node(-1, [100]), node(0, [120]), node(0, [100])])


class Prices(unittest.TestCase):
    def judge(self, market, quotes, payments, ends):
        """Tests the ends, and prices at them, inside and outside, by themselves and by evidence."""
        low, is_low_closed, high, is_high_closed = ends
        told = check_new(self, price_ends, market, quotes, payments)
        self.assertEqual(told, (full(low), is_low_closed, full(high), is_high_closed))
        self.assertIs(told[1], is_low_closed)
        self.assertIs(told[3], is_high_closed)
        self.judge_evidence(market, quotes, payments, told)
        same = told[0] == told[2]
        for end, closed, inside in ((low, is_low_closed, LEAST), (high, is_high_closed, -LEAST)):
            self.priced(market, quotes, payments, near(end, 0), closed)
            self.priced(market, quotes, payments, near(end, -inside), False)
            self.priced(market, quotes, payments, near(end, inside), not same)
        middle = second.number_of((Fraction(*full(low)) + Fraction(*full(high))) / 2)
        self.priced(market, quotes, payments, middle, True)
        for price in (near(low, -100), near(high, 100)):
            self.priced(market, quotes, payments, price, False)

    def priced(self, market, quotes, payments, price, right):
        self.assertIs(call_kept(self, is_price, market, quotes, payments, price), right)
        free = positive_masses(market, quotes + [(payments, price, price)]) is not None
        self.assertIs(free, right)

    def judge_evidence(self, market, quotes, payments, ends):
        high = check_new(self, high_evidence, market, quotes, payments)
        self.assertIs(high[1], ends[3])
        self.assertEqual(high[0], ends[2])
        self.assertTrue(second_quotes.is_high_evidence(market, quotes, payments, high), high)
        self.assertIs(call_kept(self, is_high_evidence, market, quotes, payments, evidence=high), True)
        low = check_new(self, low_evidence, market, quotes, payments)
        self.assertIs(low[1], ends[1])
        self.assertEqual(low[0], ends[0])
        self.assertTrue(second_quotes.is_low_evidence(market, quotes, payments, low), low)
        self.assertIs(call_kept(self, is_low_evidence, market, quotes, payments, evidence=low), True)

    def test_both_ends_the_same(self):
        self.judge(stock_market(), [], CALL, (5, True, 5, True))
        self.judge(stock_market(), [], numbers(3, 15, 0), (8, True, 8, True))
        self.judge(trinomial(), [], numbers(1, 2, 2, 2), (3, True, 3, True))
        self.judge(trinomial(), [], numbers(0, 20, 0, -10), (0, True, 0, True))
        self.judge(alone(), [], numbers(5), (5, True, 5, True))
        self.judge(alone(), [quote([1], 0, 2)], numbers((-7, 2)), ((-7, 2), True, (-7, 2), True))

    def test_ends_that_are_open(self):
        self.judge(trinomial(), [], numbers(0, 0, 1, 0), (0, False, 1, False))
        self.judge(trinomial(), [], numbers(0, 15, 0, 0), (0, False, 5, False))
        self.judge(trinomial(), [], numbers(0, -15, 0, 0), (-5, False, 0, False))
        self.judge(trinomial(), [], numbers(4, 15, 0, 0), (4, False, 9, False))

    def test_one_end_closed(self):
        self.judge(with_rule("long"), [], numbers(0, 1, 0), (0, False, (1, 3), True))
        self.judge(with_rule("short"), [], numbers(0, 1, 0), ((1, 3), True, 1, False))
        self.judge(with_rule("none"), [], numbers(0, 1, 0), (0, False, 1, False))
        self.judge(with_rule("any"), [], numbers(0, 1, 0), ((1, 3), True, (1, 3), True))

    def test_beside_quotes(self):
        middle = numbers(0, 0, 1, 0)
        self.judge(trinomial(), [quote([0, 0, 1, 0], (1, 4), (1, 2))], middle, ((1, 4), True, (1, 2), True))
        self.judge(trinomial(), [quote([0, 0, 1, 0], 0, (1, 2))], middle, (0, False, (1, 2), True))
        self.judge(trinomial(), [quote([0, 0, 1, 0], (1, 4), 1)], middle, ((1, 4), True, 1, False))
        self.judge(trinomial(), [quote([0, 0, 1, 0], -1, 2)], middle, (0, False, 1, False))
        self.judge(trinomial(), [quote([0, 0, 1, 0], (1, 2))], middle, ((1, 2), True, (1, 2), True))
        self.judge(trinomial(), [quote([0, 0, 1, 0], (1, 4), (1, 2))], numbers(0, 15, 0, 0), ((5, 2), True, (15, 4), True))
        two = [quote([0, 0, 1, 0], (1, 4), 1), quote([0, 15, 0, 0], 1, 6)]
        self.judge(trinomial(), two, middle, ((1, 4), True, (4, 5), True))
        self.judge(trinomial(), two + [quote([0, 0, 2, 0], (1, 2), (3, 2))], middle, ((1, 4), True, (3, 4), True))

    def test_two_steps_with_growth_and_rules(self):
        # At the root only the shares (1/2, 1/2), and so masses of 1/4; then (1/2, 1/2), masses of 1/4 each.
        self.judge(two_steps(), [], numbers(1, 2, 3, 4, 5), ((9, 2), True, (9, 2), True))
        market = two_steps()
        market[2][1][2][3] = "long"
        # At most half of node 1 goes up.
        self.judge(market, [], numbers(0, 0, 0, 1, 0), (0, False, (1, 4), True))
        market[2][1][2][3] = "none"
        self.judge(market, [], numbers(0, 0, 0, 1, 0), (0, False, (1, 2), False))

    def test_prices_of_any_size(self):
        big = 10 ** 40
        self.judge(stock_market(), [], numbers(0, 3 * big, 0), (big, True, big, True))
        self.judge(trinomial(), [], numbers(0, (3, 10 ** 20), 0, 0), (0, False, (1, 10 ** 20), False))

    def test_drawn_ones(self):
        rng = random.Random(56)
        kinds = []
        for _ in range(120):
            market = makers.free_market(rng, 10, rng.randint(1, 3))
            quotes = makers.quotes(rng, market, fair_masses(market))
            payments = makers.payments(rng, market)
            if positive_masses(market, quotes) is None:
                kinds.append(None)
                self.not_free(market, quotes, payments)
            else:
                ends = price_ends(market, quotes, payments)
                kinds += [ends[1], ends[3]] + (["same"] if ends[0] == ends[2] else [])
                self.judge(market, quotes, payments, ends)
        for kind in (None, True, False, "same"):
            self.assertGreater(kinds.count(kind), 15, kind)

    def not_free(self, market, quotes, payments):
        for function in (price_ends, high_evidence, low_evidence):
            with self.assertRaises(NotFreeTogether):
                call_kept(self, function, market, quotes, payments)
        evidence = ((0, 1), True, fair_or_none(market), ([], [], []))
        for price in ((0, 1), (1, 1), (-3, 2)):
            self.priced(market, quotes, payments, price, False)
        for function in (is_high_evidence, is_low_evidence):
            self.assertIs(call_kept(self, function, market, quotes, payments, evidence=evidence), False)

    def test_not_free_together(self):
        call = [0, 15, 0]
        for market, quotes in (
            (rising(), []), (rising(), [quote(call, 0, 15)]), (stock_market(), [quote(call, 6, 7)]),
            (stock_market(), [quote(call, 5, 4)]), (stock_market(), [quote(call, 4, 5), quote(call, 5, 6), quote([0, 0, 1], 1)]),
        ):
            self.not_free(market, quotes, CALL)
        self.not_free(alone(), [quote([1], 2)], numbers(0))
        self.not_free(three_steps(), [], numbers(1, 2, 3, 4, 5))

    def test_not_free_for_payments_of_nothing(self):
        self.not_free(rising(), [], numbers(0, 0, 0))

    def test_the_greatest_ones(self):
        rng = random.Random(57)
        fans = [-1, 0, 0, 0, 0, 0, 0, 1, 1, 1, 1, 1]
        begun = time.monotonic()
        for parents, rules in (
            (fans, ["any"]), (fans, ["any", "long", "short"]), ([-1, 0, 0, 0, 1, 1, 1, 2, 2, 2, 3, 3], ["long", "short"]),
        ):
            market = makers.greatest_market(rng, parents, rules=rules)
            masses = positive_masses(market, [])
            quotes = []
            for _ in range(3):
                payments = [makers.wide(rng) for _ in parents]
                value = round(second.product_of(masses, payments) * 10 ** 5)
                quotes.append((payments, *(second.number_of(Fraction(value + off, 10 ** 5)) for off in (-1, 1))))
            payments = [makers.wide(rng) for _ in parents]
            self.judge_evidence(market, quotes, payments, price_ends(market, quotes, payments))
        self.assertLess(time.monotonic() - begun, 60)


def fair_or_none(market):
    masses = positive_masses(market, [])
    return [] if masses is None else masses


class Evidence(unittest.TestCase):
    def judge(self, kind, case, right):
        """Tests whether evidence is taken, by the program and by the second reading."""
        market, quotes, payments, evidence = case
        function = {"high": is_high_evidence, "low": is_low_evidence}[kind]
        reading = {"high": second_quotes.is_high_evidence, "low": second_quotes.is_low_evidence}[kind]
        self.assertIs(call_kept(self, function, market, quotes, payments, evidence=evidence), right)
        self.assertIs(reading(market, quotes, payments, evidence), right)

    def open_cases(self):
        payments = numbers(0, 15, 0, 0)
        high = ((5, 1), False, numbers(1, (1, 3), 0, (2, 3)), ([], [], [numbers((1, 2)), [], [], []]))
        low = ((0, 1), False, numbers(1, 0, 1, 0), ([], [], [numbers(0), [], [], []]))
        return [("high", (trinomial(), [], payments, high)), ("low", (trinomial(), [], payments, low))]

    def closed_cases(self):
        quotes = [quote([0, 0, 1, 0], (1, 4), (1, 2))]
        payments = numbers(0, 0, 2, 0)
        high = ((1, 1), True, numbers(1, (1, 6), (1, 2), (1, 3)), (numbers(2), numbers(0), [numbers(0), [], [], []]))
        low = ((1, 2), True, numbers(1, (1, 4), (1, 4), (1, 2)), (numbers(0), numbers(2), [numbers(0), [], [], []]))
        return [("high", (trinomial(), quotes, payments, high)), ("low", (trinomial(), quotes, payments, low))]

    def with_growth(self):
        # At most half of node 1 goes up: what pays 1 there, and 1 at node 1 itself, can be sold for 3/4 with one short.
        market = two_steps()
        market[2][1][2][3] = "long"
        payments = numbers(2, 1, 0, 1, 0)
        masses = numbers(1, (1, 4), (1, 4), (1, 4), (1, 4))
        high = ((5, 2), True, masses, ([], [], [numbers((1, 2), 0, 0, 0), numbers(0, 0, 0, 1), [], [], []]))
        return ("high", (market, [], payments, high))

    def test_right_ones(self):
        for kind, case in self.open_cases() + self.closed_cases() + [self.with_growth()]:
            self.judge(kind, case, True)

    def changed(self, case, place, value):
        market, quotes, payments, evidence = copy.deepcopy(case)
        return (market, quotes, payments, evidence[:place] + (value,) + evidence[place + 1:])

    def test_the_end(self):
        for kind, case in self.open_cases() + self.closed_cases() + [self.with_growth()]:
            for off in (LEAST, -LEAST, 1, -1):
                self.judge(kind, self.changed(case, 0, near(case[3][0], off)), False)

    def test_another_end_with_masses_and_portfolio_for_it(self):
        # Masses that give 4, but the call cannot be sold for 4 without a loss.
        _, (market, quotes, payments, evidence) = self.open_cases()[0]
        masses = numbers(1, (4, 15), (1, 5), (8, 15))
        for closed in (True, False):
            self.judge("high", (market, quotes, payments, ((4, 1), closed, masses, evidence[3])), False)

    def test_closed(self):
        for kind, case in self.open_cases():
            self.judge(kind, self.changed(case, 1, True), False)
        for kind, case in self.closed_cases() + [self.with_growth()]:
            self.judge(kind, self.changed(case, 1, False), False)

    def test_no_gain_at_any_leaf(self):
        masses = numbers(1, (1, 3), (2, 3))
        portfolio = ([], [], [numbers((1, 2)), [], []])
        self.judge("high", (stock_market(), [], CALL, ((5, 1), True, masses, portfolio)), True)
        self.judge("high", (stock_market(), [], CALL, ((5, 1), False, masses, portfolio)), False)
        portfolio = ([], [], [numbers((-1, 2)), [], []])
        self.judge("low", (stock_market(), [], CALL, ((5, 1), True, masses, portfolio)), True)
        self.judge("low", (stock_market(), [], CALL, ((5, 1), False, masses, portfolio)), False)

    def test_each_number_of_the_masses(self):
        for kind, case in self.open_cases() + self.closed_cases() + [self.with_growth()]:
            for place in range(len(case[0][2])):
                for off in (LEAST, -LEAST):
                    masses = list(case[3][2])
                    masses[place] = near(masses[place], off)
                    self.judge(kind, self.changed(case, 2, masses), False)

    def test_masses_that_do_not_agree(self):
        # The masses give the payments the end, but the quote another value than it has.
        for kind, case in self.closed_cases():
            market, _, payments, evidence = case
            bought, sold, _ = evidence[3]
            off = [quote([0, 0, 1, 0], (3, 8), (3, 8))]
            self.judge(kind, (market, off, payments, evidence), False)

    def test_masses_that_are_0_at_a_node(self):
        # Two leaves in the middle pay the same: only their sum counts.
        market = (["stock"], [], [node(-1, [100])] + [node(0, [price]) for price in (120, 100, 100, 90)])
        quotes = [quote([0, 0, 1, 1, 0], (1, 4), (1, 2))]
        payments = numbers(0, 0, 2, 2, 0)
        portfolio = (numbers(2), numbers(0), [numbers(0), [], [], [], []])
        positive = numbers(1, (1, 6), (1, 4), (1, 4), (1, 3))
        with_zero = numbers(1, (1, 6), (1, 2), 0, (1, 3))
        self.judge("high", (market, quotes, payments, ((1, 1), True, positive, portfolio)), True)
        self.judge("high", (market, quotes, payments, ((1, 1), True, with_zero, portfolio)), False)
        below_zero = numbers(1, (1, 6), (3, 4), (-1, 4), (1, 3))
        for closed in (True, False):
            self.judge("high", (market, quotes, payments, ((1, 1), closed, below_zero, portfolio)), False)

    def test_masses_below_0_with_an_open_end(self):
        market = (["stock"], [], [node(-1, [100])] + [node(0, [price]) for price in (120, 100, 100, 90)])
        payments = numbers(0, 15, 0, 0, 0)
        portfolio = ([], [], [numbers((1, 2)), [], [], [], []])
        for middle, right in ((0, True), (1, False), ((1, 10 ** 30), False)):
            middle = full(middle)
            masses = numbers(1, (1, 3), middle, (-middle[0], middle[1]), (2, 3))
            self.judge("high", (market, [], payments, ((5, 1), False, masses, portfolio)), right)
            lowest = numbers(0, -15, 0, 0, 0)
            self.judge("low", (market, [], lowest, ((-5, 1), False, masses, portfolio)), right)

    def test_numbers_of_the_portfolio(self):
        for kind, case in self.closed_cases():
            bought, sold, holdings = case[3][3]
            for off in (LEAST, -LEAST):
                for changed in (
                    ([near(bought[0], off)], sold, holdings), (bought, [near(sold[0], off)], holdings),
                    (bought, sold, [[near((0, 1), off)], [], [], []]),
                ):
                    self.judge(kind, self.changed(case, 3, changed), False)
        kind, case = self.with_growth()
        for place in (0, 1):
            for off in (LEAST, -LEAST):
                held = copy.deepcopy(case[3][3])
                asset = 3 * place
                held[2][place][asset] = near(held[2][place][asset], off)
                self.judge(kind, self.changed(case, 3, held), False)

    def test_lists_of_other_lengths(self):
        for kind, case in self.open_cases() + self.closed_cases() + [self.with_growth()]:
            masses = case[3][2]
            bought, sold, holdings = case[3][3]
            for other in ([], masses[:-1], masses + [(0, 1)], masses + [masses[-1]]):
                self.judge(kind, self.changed(case, 2, other), False)
            for other in (
                (bought + [(0, 1)], sold, holdings), (bought, sold + [(0, 1)], holdings), (bought, sold, []),
                (bought, sold, holdings[:-1]), (bought, sold, holdings + [[]]), (bought, sold, [[]] + holdings[1:]),
                (bought, sold, [holdings[0] + [(0, 1)]] + holdings[1:]), (bought, sold, holdings[:-1] + [[(0, 1)]]),
                (bought + [(0, 1)], sold + [(0, 1)], holdings),
            ):
                self.judge(kind, self.changed(case, 3, other), False)
        for kind, case in self.closed_cases():
            bought, sold, holdings = case[3][3]
            for other in (([], sold, holdings), (bought, [], holdings), ([], [], holdings)):
                self.judge(kind, self.changed(case, 3, other), False)

    def test_holdings_against_a_rule(self):
        kind, case = self.with_growth()
        self.judge(kind, self.changed(case, 3, ([], [], [numbers((1, 2), 0, 0, 1), numbers(0, 0, 0, 1), [], [], []])), False)
        market = copy.deepcopy(case[0])
        market[2][1][2][3] = "short"
        self.judge(kind, (market,) + case[1:], False)

    def test_each_kind_beside_the_other_one(self):
        (_, high), (_, low) = self.open_cases()
        self.judge("low", high, False)
        self.judge("high", low, False)
        self.judge("low", (trinomial(), [], numbers(0, -15, 0, 0), ((-5, 1),) + high[3][1:]), True)


if __name__ == "__main__":
    unittest.main()
