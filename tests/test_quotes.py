import random
import time
import unittest
from fractions import Fraction

from surehedge.numbers import number
from surehedge.quotes import (
    agree,
    is_masses,
    is_portfolio,
    is_sure_gain,
    positive_masses,
    sure_gain,
    value_of,
    wealths,
)
from surehedge.weights import mean_weights, unfree_node
from tests import makers, second, second_quotes
from tests.helpers import call_kept, check_new, full, node, stock_market

NONE = ([], [], [[(0, 1)], [], []])


def numbers(*values):
    return [full(each) for each in values]


def quote(payments, bid, ask=None):
    """A quote of one price, or of a bid and an ask."""
    return (numbers(*payments), full(bid), full(bid if ask is None else ask))


def with_rule(rule):
    """A stock at 100 that goes to 120 or 90, with this rule."""
    market = stock_market()
    market[2][0][2][0] = rule
    return market


def two_steps():
    """Growth 2 and 1/2; at the root four assets, of which each rule has one; at node 1 a fair step."""
    none = [0, 0, 0, 0]
    return (["a", "b", "c", "d"], [], [
        node(-1, none, growth=(2, 1), rules=["any", "long", "short", "none"]),
        node(0, [2, 1, 1, 5], growth=(1, 2), rules=["none", "none", "none", "any"]),
        node(0, [-2, -2, 2, 7], rules=["any", "any", "any", "any"]),
        node(1, [0, 0, 0, 3], rules=["any", "any", "any", "any"]),
        node(1, [0, 0, 0, 2], rules=["any", "any", "any", "any"]),
    ])


def three_steps():
    """Growth other than 1 all the way down."""
    return (["a"], [], [
        node(-1, [10], growth=(2, 1)),
        node(0, [30], growth=(1, 2)),
        node(0, [15]),
        node(1, [20], growth=(3, 1), payouts=[1]),
        node(3, [50]),
    ])


def trinomial():
    """A stock at 100 that goes to 120, 100 or 90."""
    return (["stock"], [], [node(-1, [100]), node(0, [120]), node(0, [100]), node(0, [90])])


def alone(payout=0):
    """A market of one node."""
    return (["stock"], [], [node(-1, [100], payouts=[payout])])


def fair_masses(market):
    """Positive masses by mean weights, in a free market."""
    return second_quotes.masses_by(market, [mean_weights(market, place) for place in range(len(market[2]))])


class Masses(unittest.TestCase):
    def judge(self, market, masses, right):
        self.assertIs(call_kept(self, is_masses, market, masses), right)
        self.assertIs(second_quotes.is_masses(market, masses), right)

    def test_right_ones(self):
        self.judge(stock_market(), numbers(1, (1, 3), (2, 3)), True)
        self.judge(two_steps(), numbers(1, (1, 4), (1, 4), (1, 4), (1, 4)), True)
        self.judge(alone(), numbers(1), True)
        self.judge(trinomial(), numbers(1, 0, 1, 0), True)
        self.judge(trinomial(), numbers(1, (1, 6), (1, 2), (1, 3)), True)

    def test_the_number_of_the_root(self):
        for root in (0, 2, -1, (1, 2), (999999999999, 1000000000000)):
            self.judge(stock_market(), numbers(root, (1, 3), (2, 3)), False)
            self.judge(alone(), numbers(root), False)
        self.judge(stock_market(), numbers(2, (2, 3), (4, 3)), False)

    def test_the_sum_over_the_children(self):
        self.judge(stock_market(), numbers(1, (1, 2), 1), False)
        self.judge(stock_market(), numbers(1, (1, 6), (1, 3)), False)
        self.judge(two_steps(), numbers(1, (1, 2), (1, 2), (1, 2), (1, 2)), False)
        self.judge(two_steps(), numbers(1, (1, 4), (1, 4), (1, 2), 0), False)
        self.judge(two_steps(), numbers(1, (1, 4), (1, 4), (1, 8), (1, 8)), False)
        self.judge(two_steps(), numbers(1, (1, 4), (1, 4), (1, 4), (1, 5)), False)

    def test_each_rule_on_either_side_of_0(self):
        least = (1, 10 ** 30)
        for up, side in (((1, 3), 0), ((1, 2), 1), ((1, 4), -1), (1, 1), (0, -1)):
            for near in (None, least):
                share = Fraction(*full(up)) + (side * Fraction(*near) if near and 0 < Fraction(*full(up)) < 1 else 0)
                masses = [(1, 1), second.number_of(share), second.number_of(1 - share)]
                for rule, sides in (("any", (0,)), ("long", (-1, 0)), ("short", (0, 1)), ("none", (-1, 0, 1))):
                    self.judge(with_rule(rule), masses, side in sides)
        for side in (-1, 1):
            share = Fraction(1, 3) + side * Fraction(*least)
            masses = [(1, 1), second.number_of(share), second.number_of(1 - share)]
            for rule, sides in (("any", ()), ("long", (-1,)), ("short", (1,)), ("none", (-1, 1))):
                self.judge(with_rule(rule), masses, side in sides)

    def test_gains_of_further_steps(self):
        market = two_steps()
        masses = numbers(1, (1, 4), (1, 4), (1, 4), (1, 4))
        self.judge(market, masses, True)
        market[2][3][3][3] = (4, 1)
        self.judge(market, masses, False)
        market[2][1][2][3] = "short"
        self.judge(market, masses, True)

    def test_numbers_below_0(self):
        # Point 51 asks for numbers more than 0 of positive masses only, point 57 for 0 at least of those of evidence.
        self.judge(with_rule("none"), numbers(1, 2, -1), True)
        self.judge(with_rule("none"), numbers(1, (-1, 10 ** 30), (10 ** 30 + 1, 10 ** 30)), True)
        self.judge(with_rule("none"), numbers(1, 2, -2), False)
        self.judge(with_rule("none"), numbers(1, 0, 1), True)

    def test_lists_of_other_lengths(self):
        for masses in ([], numbers(1), numbers(1, (1, 3)), numbers(1, (1, 3), (2, 3), 0), numbers(1, (1, 3), (1, 3), (1, 3))):
            self.judge(stock_market(), masses, False)
        self.judge(alone(), [], False)
        self.judge(alone(), numbers(1, 0), False)

    def test_values(self):
        self.assertEqual(call_kept(self, value_of, numbers(1, (1, 3), (2, 3)), numbers(2, 15, -3)), (5, 1))
        self.assertEqual(value_of(numbers(1), numbers((-7, 2))), (-7, 2))
        self.assertEqual(value_of(numbers(1, (1, 3), (2, 3)), numbers(0, 0, 0)), (0, 1))
        self.assertEqual(value_of([], []), (0, 1))
        self.assertEqual(value_of([(1, 10 ** 40)], [(10 ** 40, 1)]), (1, 1))

    def test_agree(self):
        masses = numbers(1, (1, 3), (2, 3))
        call = [0, 15, 0]
        for bid, ask, right in (
            (5, 5, True), (5, 6, True), (4, 5, True), (4, 6, True), (6, 7, False), (3, 4, False), (6, 4, False),
            ((5 * 10 ** 30 + 1, 10 ** 30), 6, False), (4, (5 * 10 ** 30 - 1, 10 ** 30), False),
        ):
            self.assertIs(call_kept(self, agree, [quote(call, bid, ask)], masses), right)
        self.assertIs(agree([], masses), True)
        self.assertIs(agree([], numbers(0, -1, 5)), True)
        three = [quote(call, 5), quote([1, 0, 0], 0, 1), quote([0, 0, 3], 2, 3)]
        self.assertIs(call_kept(self, agree, three, masses), True)
        for place, off in ((0, quote(call, 6, 7)), (1, quote([1, 0, 0], 2, 3)), (2, quote([0, 0, 3], 0, 1))):
            self.assertIs(agree(three[:place] + [off] + three[place + 1:], masses), False)

    def test_the_payment_at_the_root_counts(self):
        self.assertIs(agree([quote([4, 15, 0], 9)], numbers(1, (1, 3), (2, 3))), True)
        self.assertIs(agree([quote([7], 7)], numbers(1)), True)
        self.assertIs(agree([quote([7], 8)], numbers(1)), False)


class Portfolios(unittest.TestCase):
    def judge(self, market, quotes, portfolio, right):
        self.assertIs(call_kept(self, is_portfolio, market, quotes, portfolio), right)
        self.assertIs(second_quotes.is_portfolio(market, quotes, portfolio), right)

    def test_right_ones(self):
        self.judge(stock_market(), [], NONE, True)
        two = [quote([0, 1, 0], 0, 1), quote([0, 0, 1], 0, 1)]
        self.judge(stock_market(), two, (numbers(1, 0), numbers(0, (1, 2)), [numbers(-3), [], []]), True)
        self.judge(alone(), [], ([], [], [[]]), True)

    def test_lists_of_other_lengths(self):
        two = [quote([0, 1, 0], 0, 1), quote([0, 0, 1], 0, 1)]
        held = [numbers(0), [], []]
        for bought, sold in (([], []), ([0], [0, 0]), ([0, 0], [0]), ([0, 0, 0], [0, 0]), ([0, 0], [0, 0, 0]), ([0, 0], [])):
            self.judge(stock_market(), two, (numbers(*bought), numbers(*sold), held), False)
        self.judge(stock_market(), [], (numbers(0), numbers(0), held), False)
        for lists in ([], [numbers(0)], [numbers(0), []], [numbers(0), [], [], []]):
            self.judge(stock_market(), [], ([], [], lists), False)

    def test_numbers_below_0(self):
        two = [quote([0, 1, 0], 0, 1), quote([0, 0, 1], 0, 1)]
        held = [numbers(0), [], []]
        for place in (0, 1):
            low = numbers(0, 0)
            low[place] = (-1, 10 ** 30)
            self.judge(stock_market(), two, (low, numbers(0, 0), held), False)
            self.judge(stock_market(), two, (numbers(0, 0), low, held), False)

    def test_holdings(self):
        for lists in ([numbers(0), numbers(0), []], [numbers(0), [], numbers(0)], [[], [], []], [numbers(0, 0), [], []]):
            self.judge(stock_market(), [], ([], [], lists), False)
        self.judge(alone(), [], ([], [], [numbers(0)]), False)
        for rule, fits in (("any", (-1, 0, 1)), ("long", (0, 1)), ("short", (-1, 0)), ("none", (0,))):
            for sign in (-1, 0, 1):
                self.judge(with_rule(rule), [], ([], [], [[(sign, 10 ** 20 if sign else 1)], [], []]), sign in fits)
        market = two_steps()
        self.judge(market, [], ([], [], [numbers(-1, 1, -1, 0), numbers(0, 0, 0, 5), [], [], []]), True)
        self.judge(market, [], ([], [], [numbers(-1, 1, -1, 0), numbers(0, 1, 0, 5), [], [], []]), False)

    def test_wealths_of_three_steps(self):
        market = three_steps()
        two = [quote([1, 2, 3, 4, 5], 7, 8), quote([0, -1, 0, 0, (1, 2)], -1, 0)]
        portfolio = (numbers(2, 0), numbers((1, 2), 3), [numbers(1), numbers(-2), [], numbers((1, 3)), []])
        told = check_new(self, wealths, market, two, portfolio)
        self.assertEqual(told, numbers(-14, -12, (-57, 2), -12, (-100, 3)))

    def test_wealths_of_one_step_and_of_none(self):
        self.assertEqual(wealths(stock_market(), [], ([], [], [numbers(2), [], []])), numbers(0, 40, -20))
        call = quote([0, 15, 0], 4, 6)
        self.assertEqual(wealths(stock_market(), [call], (numbers(0), numbers(1), [numbers((1, 2)), [], []])), numbers(4, -1, -1))
        self.assertEqual(wealths(stock_market(), [call], (numbers(1), numbers(0), [numbers((-1, 2)), [], []])), numbers(-6, -1, -1))
        self.assertEqual(wealths(stock_market(), [call], (numbers(1), numbers(1), [numbers(0), [], []])), numbers(-2, -2, -2))
        self.assertEqual(check_new(self, wealths, alone(), [quote([7], 4, 6)], (numbers(2), numbers(0), [[]])), numbers(2))
        self.assertEqual(wealths(alone(), [], ([], [], [[]])), numbers(0))

    def test_wealths_of_two_steps(self):
        market = two_steps()
        portfolio = (numbers(1), numbers(0), [numbers(1, 2, -3, 0), numbers(0, 0, 0, 2), [], [], []])
        # At the root -3 and 5; gains at the root are the prices below, as the prices there are 0.
        told = wealths(market, [quote([5, 0, 1, -1, 0], 1, 3)], portfolio)
        self.assertEqual(told, numbers(2, 5, -7, (5, 2), (3, 2)))

    def test_wealths_of_drawn_portfolios(self):
        rng = random.Random(50)
        for _ in range(60):
            market = makers.free_market(rng, 9)
            quotes = makers.quotes(rng, market, fair_masses(market))
            portfolio = (
                [makers.small(rng) for _ in quotes], [makers.small(rng) for _ in quotes],
                [[makers.small(rng) for _ in market[0]] if second.children(market, place) else []
                 for place in range(len(market[2]))],
            )
            told = check_new(self, wealths, market, quotes, portfolio)
            self.assertEqual(second.fractions(told), second_quotes.wealths(market, quotes, portfolio))

    def test_sure_gains(self):
        def judge(market, quotes, portfolio, right):
            self.assertIs(call_kept(self, is_sure_gain, market, quotes, portfolio), right)
            self.assertIs(second_quotes.is_sure_gain(market, quotes, portfolio), right)

        gift = [quote([0, 1, 0], -1, 0)]
        held = [numbers(0), [], []]
        judge(stock_market(), gift, (numbers(1), numbers(0), held), True)
        judge(stock_market(), gift, ([(1, 10 ** 30)], numbers(0), held), True)
        judge(stock_market(), gift, (numbers(0), numbers(0), held), False)
        judge(stock_market(), [], NONE, False)
        judge(stock_market(), gift, (numbers(0), numbers(1), held), False)
        # Below 0 at one leaf, however little, and above 0 at the other one.
        judge(stock_market(), gift, (numbers(1), numbers(0), [numbers((1, 10 ** 30)), [], []]), False)
        judge(stock_market(), [quote([0, 0, 1], 0, 0)], (numbers(1), numbers(0), [numbers((1, 10)), [], []]), True)
        judge(alone(), [quote([1], 0, 0)], (numbers(1), numbers(0), [[]]), True)
        judge(alone(), [quote([1], 1, 1)], (numbers(1), numbers(0), [[]]), False)
        judge(alone(), [quote([1], 2, 2)], (numbers(0), numbers(1), [[]]), True)

    def test_what_is_no_portfolio_is_no_sure_gain(self):
        gift = [quote([0, 1, 0], -1, 0)]
        for portfolio in (
            ([], [], [numbers(0), [], []]), (numbers(1), numbers(-1), [numbers(0), [], []]), (numbers(1), numbers(0), []),
            (numbers(1), numbers(0), [[], [], []]), (numbers(1), numbers(0), [numbers(0), [], numbers(0)]),
            (numbers(1, 1), numbers(0, 0), [numbers(0), [], []]), (numbers(1), [], [numbers(0), [], []]),
        ):
            self.assertIs(call_kept(self, is_sure_gain, stock_market(), gift, portfolio), False)
        rising = (["stock"], [], [node(-1, [100], rules=["short"]), node(0, [120])])
        self.assertIs(is_sure_gain(rising, [], ([], [], [numbers(1), []])), False)
        rising[2][0][2][0] = "long"
        self.assertIs(is_sure_gain(rising, [], ([], [], [numbers(1), []])), True)

    def test_wealth_at_inner_nodes_does_not_count(self):
        market = three_steps()
        gift = [quote([0, -5, 0, 10, 0], 0)]
        self.assertIs(is_sure_gain(market, gift, (numbers(1), numbers(0), [numbers(0), numbers(0), [], numbers(0), []])), True)


class Together(unittest.TestCase):
    """positive_masses and sure_gain: just one of them is None."""

    def judge(self, market, quotes, free=None):
        masses = check_new(self, positive_masses, market, quotes)
        gain = check_new(self, sure_gain, market, quotes)
        if free is not None:
            self.assertIs(masses is not None, free)
        if masses is None:
            self.assertTrue(second_quotes.is_sure_gain(market, quotes, gain), gain)
            self.assertIs(is_sure_gain(market, quotes, gain), True)
        else:
            self.assertIsNone(gain)
            self.assertTrue(second_quotes.is_masses(market, masses, positive=True), masses)
            self.assertTrue(second_quotes.agree(quotes, masses))
            self.assertIs(is_masses(market, masses) and agree(quotes, masses), True)
        return masses is not None

    def test_without_quotes(self):
        self.judge(stock_market(), [], True)
        self.judge(alone(), [], True)
        self.judge(trinomial(), [], True)
        self.judge(two_steps(), [], True)
        rising = (["stock"], [], [node(-1, [100]), node(0, [120]), node(0, [100])])
        self.judge(rising, [], False)
        for rule, free in (("long", False), ("short", True), ("none", True)):
            rising[2][0][2][0] = rule
            self.judge(rising, [], free)
        self.judge(three_steps(), [], False)

    def test_markets_without_weights_at_some_node_only(self):
        for parents, place in (([-1, 0, 0, 1, 1], 1), ([-1, 0, 0, 1, 1, 2, 2], 2), ([-1, 0, 1, 2], 2)):
            market = (["stock"], [], [node(parent, [100]) for parent in parents])
            self.judge(market, [], True)
            market[2][second.children(market, place)[0]][3][0] = (101, 1)
            self.judge(market, [], False)

    def test_one_quote(self):
        call = [0, 15, 0]
        for bid, ask, free in (
            (5, 5, True), (4, 5, True), (5, 6, True), (4, 6, True), (5, 4, False), (6, 7, False), (3, 4, False),
            ((5 * 10 ** 30 + 1, 10 ** 30), 6, False), (4, (5 * 10 ** 30 - 1, 10 ** 30), False),
        ):
            self.judge(stock_market(), [quote(call, bid, ask)], free)
        self.judge(alone(), [quote([5], 5)], True)
        self.judge(alone(), [quote([5], 4, 6)], True)
        self.judge(alone(), [quote([5], 3, 4)], False)
        self.judge(alone(), [quote([5], 6, 7)], False)

    def test_open_ends(self):
        # The mass of the leaf in the middle can be anything between 0 and 1, the ends not counted.
        for price, free in ((0, False), (1, False), ((1, 10 ** 30), True), ((10 ** 30 - 1, 10 ** 30), True), ((1, 2), True), (-1, False)):
            self.judge(trinomial(), [quote([0, 0, 1, 0], price)], free)
        self.judge(trinomial(), [quote([0, 0, 1, 0], 0, 1)], True)
        self.judge(trinomial(), [quote([0, 0, 1, 0], -1, 0)], False)
        self.judge(trinomial(), [quote([0, 0, 1, 0], 1, 2)], False)

    def test_quotes_that_pay_nothing(self):
        for bid, ask, free in ((0, 0, True), (-1, 1, True), (1, 1, False), (-1, -1, False), (1, -1, False), (0, 1, True)):
            for market in (stock_market(), alone()):
                self.judge(market, [quote([0] * len(market[2]), bid, ask)], free)

    def test_quotes_that_contradict_each_other(self):
        one = quote([0, 0, 1, 0], (1, 4), (1, 2))
        for bid, ask, free in (((1, 2), (1, 1), True), ((3, 4), (1, 1), False), ((0, 1), (1, 4), True), ((0, 1), (1, 5), False)):
            self.judge(trinomial(), [one, quote([0, 0, 1, 0], bid, ask)], free)
            twice = [number(-2 * n, d) for n, d in (ask, bid)]
            self.judge(trinomial(), [one, quote([0, 0, -2, 0], *twice)], free)
        self.judge(trinomial(), [one, one, one], True)

    def test_three_quotes_of_which_each_two_fit_together(self):
        market = trinomial()
        market[2][0][2][0] = "none"
        three = [quote([0] + [int(place == leaf) for place in range(3)], (2, 5), 1) for leaf in range(3)]
        for left in range(3):
            self.judge(market, three[:left] + three[left + 1:], True)
        self.judge(market, three, False)

    def test_bids_above_asks(self):
        for market in (stock_market(), trinomial(), two_steps(), alone(), three_steps()):
            payments = [1] * len(market[2])
            self.judge(market, [quote(payments, 5, 4)], False)
            self.judge(market, [quote(payments, (10 ** 30 + 1, 10 ** 30), 1)], False)

    def test_numbers_of_any_size(self):
        big = 10 ** 40
        self.judge(stock_market(), [quote([0, 3 * big, 0], big)], True)
        self.judge(stock_market(), [quote([0, 3 * big, 0], big + 1)], False)
        self.judge(stock_market(), [quote([0, (3, big), 0], (1, big))], True)
        self.judge(stock_market(), [quote([0, (3, big), 0], (2, big + 1))], False)

    def test_payments_at_all_nodes(self):
        market = two_steps()
        masses = positive_masses(market, [])
        payments = numbers(3, -1, 2, (1, 2), 5)
        value = value_of(masses, payments)
        self.judge(market, [(payments, value, value)], True)
        self.judge(market, [(payments, value, value), quote([0, 1, 1, 0, 0], (1, 2))], True)
        self.judge(market, [(payments, value, value), quote([0, 1, 1, 0, 0], (1, 3))], False)

    def test_drawn_markets_without_quotes(self):
        rng = random.Random(54)
        found = []
        for turn in range(150):
            market = makers.free_market(rng, 12) if turn < 50 else makers.step_market(rng) if turn < 110 else makers.market(rng)
            found.append(self.judge(market, []))
            self.assertIs(found[-1], unfree_node(market) is None)
        self.assertGreater(found.count(True), 50)
        self.assertGreater(found.count(False), 30)

    def test_drawn_quotes_in_free_markets(self):
        rng = random.Random(55)
        found = []
        for _ in range(200):
            market = makers.free_market(rng, 12, rng.randint(1, 3))
            found.append(self.judge(market, makers.quotes(rng, market, fair_masses(market))))
        self.assertGreater(found.count(True), 50)
        self.assertGreater(found.count(False), 50)

    def test_drawn_quotes_in_markets_that_are_not_free(self):
        rng = random.Random(56)
        for _ in range(80):
            market = makers.market(rng)
            quotes = makers.quotes(rng, market, makers.payments(rng, market))
            free = self.judge(market, quotes)
            if unfree_node(market) is not None:
                self.assertIs(free, False)

    def test_the_greatest_ones(self):
        rng = random.Random(57)
        fans = [-1, 0, 0, 0, 0, 0, 0, 1, 1, 1, 1, 1]
        begun = time.monotonic()
        for parents, rules in (
            (fans, ["any"]), (fans, ["any", "long", "short"]), ([-1, 0, 0, 0, 1, 1, 1, 2, 2, 2, 3, 3], ["long", "short"]),
            ([-1, 0, 0, 1, 1, 2, 2, 3, 3, 4, 4, 5], ["long", "short"]), (list(range(-1, 11)), ["long", "short"]),
        ):
            market = makers.greatest_market(rng, parents, rules=rules)
            masses = positive_masses(market, [])
            for width in (Fraction(1, 10 ** 5), -Fraction(1, 10 ** 5), 0):
                quotes = []
                for _ in range(3):
                    payments = [makers.wide(rng) for _ in parents]
                    value = round(second.product_of(masses, payments) * 10 ** 5)
                    bid, ask = Fraction(value - 1, 10 ** 5) - width, Fraction(value + 1, 10 ** 5) + width
                    quotes.append((payments, second.number_of(bid), second.number_of(ask)))
                self.judge(market, quotes)
        self.assertLess(time.monotonic() - begun, 60)


if __name__ == "__main__":
    unittest.main()
