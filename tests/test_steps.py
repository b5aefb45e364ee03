import random
import unittest
from fractions import Fraction

from surehedge.errors import NoWeights
from surehedge.steps import cost_of, covers, judge_cost, judge_loan, loan_on
from tests import makers, second
from tests.helpers import call_kept, check_new, node, stock_market, two_asset_market

BIG = 10 ** 30


def numbers(*values):
    return [(each, 1) if isinstance(each, int) else each for each in values]


def three_way():
    """The stock goes from 100 to 120, 100 or 90."""
    return (["stock"], [], [node(-1, [100]), node(0, [120]), node(0, [100]), node(0, [90])])


def negated(values):
    return [(-n, d) for n, d in values]


class Covers(unittest.TestCase):
    def told(self, right, market, values, wealth, holdings, place=0):
        wealth = numbers(wealth)[0]
        found = call_kept(self, covers, market, place, numbers(*values), wealth=wealth, holdings=numbers(*holdings))
        self.assertIs(found, right)

    def test_below_at_and_above_the_values(self):
        market = stock_market()
        # With 5 and half a stock, wealth is 15 above and 0 below.
        for values, right in (
            ((15, 0), True), ((14, 0), True), ((15, -1), True), ((16, 0), False), ((15, (1, BIG)), False),
            ((-100, -100), True), ((0, 1), False), ((0, 15), False),
        ):
            self.told(right, market, values, 5, ((1, 2),))
        self.told(False, market, (15, 0), (5 * BIG - 1, BIG), ((1, 2),))
        self.told(True, market, (15, 0), (5 * BIG + 1, BIG), ((1, 2),))

    def test_growth(self):
        market = stock_market()
        market[2][0] = node(-1, [100], growth=(11, 10))
        # Growth makes 10 of wealth to 11, and 110 of the price.
        self.told(True, market, (21, -9), 10, (1,))
        self.told(False, market, (22, -9), 10, (1,))
        self.told(False, market, (21, -8), 10, (1,))

    def test_rules(self):
        for rule, amounts in {"any": (-1, 0, 1), "long": (0, 1), "short": (-1, 0), "none": (0,)}.items():
            market = stock_market()
            market[2][0][2][0] = rule
            for amount in (-1, 0, 1):
                self.told(amount in amounts, market, (0, 0), 100, (amount,))
                self.told(amount in amounts, market, (0, 0), BIG, ((amount, BIG) if amount else 0,))

    def test_a_node_further_down(self):
        market = two_asset_market()
        # From node 1, a bond of 49 becomes 55 or 50; the stock is not to be held.
        self.told(True, market, (6, 1), 0, (0, 1), place=1)
        self.told(False, market, (6, 2), 0, (0, 1), place=1)
        self.told(False, market, (6, 1), 0, (1, 1), place=1)

    def test_random(self):
        rng = random.Random(1)
        found = {True: 0, False: 0}
        for _ in range(300):
            market = makers.step_market(rng)
            values = [makers.small(rng) for _ in market[2][1:]]
            holdings = [(rng.randint(-1, 1), 1) if rng.random() < 0.7 else (0, 1) for _ in market[0]]
            wealth = makers.small(rng, 20)
            expected = second.covers(market, 0, values, wealth, holdings)
            found[expected] += 1
            self.told(expected, market, values, wealth, holdings)
        self.assertGreater(min(found.values()), 30)


class Papers(unittest.TestCase):
    def right(self, market, values, place=0):
        """Tests the words of the points for both papers, and returns them."""
        values = numbers(*values)
        cost = check_new(self, cost_of, market, place, values)
        loan = check_new(self, loan_on, market, place, values)
        self.assertTrue(second.is_cost_paper(market, place, values, cost))
        turned = (negated(loan[:1])[0], loan[1], loan[2])
        self.assertTrue(second.is_cost_paper(market, place, negated(values), turned))
        self.assertIs(call_kept(self, judge_cost, market, place, values, cost), True)
        self.assertIs(call_kept(self, judge_loan, market, place, values, loan), True)
        lists = second.extreme_weights(market, place)
        growth = Fraction(*market[2][place][1])
        means = [second.product_of(each, values) / growth for each in lists]
        self.assertEqual(cost[:2], (second.number_of(max(means)), lists[means.index(max(means))]))
        self.assertEqual(loan[:2], (second.number_of(min(means)), lists[means.index(min(means))]))
        return cost, loan

    def test_the_example(self):
        paper = cost_of(stock_market(), 0, [(15, 1), (0, 1)])
        self.assertEqual(paper, ((5, 1), [(1, 3), (2, 3)], [(1, 2)]))

    def test_by_hand(self):
        cost, loan = self.right(three_way(), (15, 0, 0))
        self.assertEqual(cost[:2], ((5, 1), numbers((1, 3), 0, (2, 3))))
        self.assertEqual(loan[:2], ((0, 1), numbers(0, 1, 0)))
        cost, loan = self.right(three_way(), (-15, -6, -9))
        self.assertEqual(cost[:2], ((-6, 1), numbers(0, 1, 0)))
        self.assertEqual(loan[:2], ((-11, 1), numbers((1, 3), 0, (2, 3))))

    def test_the_first_of_several_with_the_same_mean(self):
        cost, loan = self.right(three_way(), (4, 4, 4))
        self.assertEqual(cost, ((4, 1), numbers(0, 1, 0), cost[2]))
        self.assertEqual(loan, ((4, 1), numbers(0, 1, 0), loan[2]))
        market = (["stock"], [], [node(-1, [100])] + [node(0, [price]) for price in (102, 101, 99, 98)])
        cost, loan = self.right(market, (0, 0, 0, 0))
        self.assertEqual(cost[1], numbers(0, (1, 2), (1, 2), 0))
        cost, loan = self.right(market, (1, 1, -1, -1))
        self.assertEqual(cost[1], numbers(0, (2, 3), 0, (1, 3)))
        self.assertEqual(loan[1], numbers((1, 3), 0, (2, 3), 0))
        cost, loan = self.right(market, (-1, 1, 1, -1))
        self.assertEqual(cost[1], numbers(0, (1, 2), (1, 2), 0))
        self.assertEqual(loan[1], numbers((1, 2), 0, 0, (1, 2)))
        cost, loan = self.right(market, (2, 1, -1, -2))
        self.assertEqual(cost[1], numbers(0, (1, 2), (1, 2), 0))
        self.assertEqual(loan[1], numbers(0, (1, 2), (1, 2), 0))

    def test_growth_and_rules(self):
        for rule, least, most in (
            ("any", (50, 11), (50, 11)), ("long", (0, 1), (50, 11)), ("short", (50, 11), (150, 11)),
            ("none", (0, 1), (150, 11)),
        ):
            nodes = [node(-1, [(1000, 11)], growth=(11, 10), rules=[rule]), node(0, [120]), node(0, [90])]
            cost, loan = self.right((["stock"], [], nodes), (15, 0))
            self.assertEqual(cost[0], most)
            self.assertEqual(loan[0], least)

    def test_values_of_any_size(self):
        cost, loan = self.right(three_way(), (3 * BIG, (1, BIG), 0))
        self.assertEqual(cost[0], (BIG, 1))
        self.assertEqual(loan[0], (1, BIG))

    def test_random_markets(self):
        rng = random.Random(2)
        for _ in range(200):
            market = makers.free_step_market(rng, rng.randint(1, 4))
            values = [makers.small(rng, 3) for _ in market[2][1:]]
            self.right(market, values)

    def test_markets_that_are_not_free(self):
        # All weight stands on the second child, the first one is not to be feared.
        market = (["stock"], [], [node(-1, [100]), node(0, [120]), node(0, [100])])
        cost, loan = self.right(market, (7, 3))
        self.assertEqual((cost[0], loan[0]), ((3, 1), (3, 1)))
        self.assertEqual(cost[1], numbers(0, 1))
        rng = random.Random(3)
        done = 0
        while done < 40:
            market = makers.step_market(rng)
            if second.extreme_weights(market, 0):
                self.right(market, [makers.small(rng) for _ in market[2][1:]])
                done += 1

    def test_long_numbers(self):
        rng = random.Random(4)
        done = 0
        while done < 6:
            market = makers.step_market(rng, 2, 6, price=makers.wide)
            if second.extreme_weights(market, 0):
                self.right(market, [makers.wide(rng) for _ in market[2][1:]])
                done += 1

    def test_no_weights(self):
        nodes = [node(-1, [100]), node(0, [120]), node(0, [90]), node(1, [130]), node(2, [80]), node(2, [85])]
        market = (["stock"], [], nodes)
        self.right(market, (1, 2))
        for place, values in ((1, [(1, 1)]), (2, [(1, 1), (2, 1)])):
            for function in (cost_of, loan_on):
                with self.assertRaises(NoWeights) as caught:
                    call_kept(self, function, market, place, values)
                self.assertEqual(caught.exception.node, place)

    def test_only_weights_that_are_0_somewhere_are_weights_too(self):
        market = (["stock"], [], [node(-1, [100], rules=["long"]), node(0, [100]), node(0, [120])])
        self.right(market, (1, 5))


class Judging(unittest.TestCase):
    def told(self, right, values, cost, given, holdings, market=None):
        """Tests the cost paper, and the loan paper for the opposite values."""
        market = market or three_way()
        values = numbers(*values)
        cost, given, holdings = numbers(cost)[0], numbers(*given), numbers(*holdings)
        found = call_kept(self, judge_cost, market, 0, values, (cost, given, holdings))
        self.assertIs(found, right)
        turned = ((-cost[0], cost[1]), given, holdings)
        self.assertIs(call_kept(self, judge_loan, market, 0, negated(values), turned), right)

    def test_papers(self):
        good = ((15, 0, 0), 5, ((1, 3), 0, (2, 3)), ((1, 2),))
        self.told(True, *good)
        for cost in (4, 6, 0, -5, (5 * BIG + 1, BIG)):
            self.told(False, good[0], cost, *good[2:])
        for given in (
            (0, 1, 0), ((1, 6), (1, 2), (1, 3)), ((1, 3), (1, 3), (1, 3)), ((1, 3), 0, 0), ((1, 3), (-1, 1), (5, 3)),
            (), ((1, 3),), ((1, 3), (2, 3)), ((1, 3), 0, (2, 3), 0), (1, 0, 0), ((2, 3), 0, (4, 3)),
        ):
            self.told(False, *good[:2], given, good[3])
        for holdings in ((), (0,), (1,), (-1,), ((1, 2), 0), ((1, 2), (1, 2)), ((BIG + 1, 2 * BIG),)):
            self.told(False, *good[:3], holdings)

    def test_a_cost_that_covers_but_is_not_the_mean(self):
        self.told(False, (15, 0, 0), 6, ((1, 3), 0, (2, 3)), ((1, 2),))
        self.told(False, (15, 0, 0), (5, 2), ((1, 6), (1, 2), (1, 3)), ((1, 2),))

    def test_several_right_papers(self):
        for holdings, right in ((0, True), ((1, 4), True), ((1, 2), True), ((3, 4), False), ((-1, BIG), False)):
            self.told(right, (0, 0, -5), 0, (0, 1, 0), (holdings,))
        self.told(True, (6, 4, 3), 4, (0, 1, 0), ((1, 10),))
        self.told(True, (6, 4, 3), 4, ((1, 3), 0, (2, 3)), ((1, 10),))
        self.told(True, (6, 4, 3), 4, ((1, 6), (1, 2), (1, 3)), ((1, 10),))
        self.told(False, (6, 4, 3), 4, ((1, 6), (1, 2), (1, 3)), ((1, 11),))

    def test_rules_of_the_paper(self):
        for rule, right in (("any", True), ("long", False), ("short", True), ("none", False)):
            market = three_way()
            market[2][0][2][0] = rule
            # What falls when the stock rises is covered by owing the stock.
            self.told(right, (-10, 0, 5), 0, (0, 1, 0), ((-1, 2),), market)

    def test_growth(self):
        market = (["stock"], [], [node(-1, [(1000, 11)], growth=(11, 10)), node(0, [120]), node(0, [90])])
        self.told(True, (15, 0), (50, 11), ((1, 3), (2, 3)), ((1, 2),), market)
        self.told(False, (15, 0), 5, ((1, 3), (2, 3)), ((1, 2),), market)
        self.told(False, (15, 0), (11, 2), ((1, 3), (2, 3)), ((1, 2),), market)

    def test_papers_with_one_thing_changed(self):
        rng = random.Random(5)
        found = {True: 0, False: 0}
        for _ in range(400):
            market = makers.free_step_market(rng)
            values = [makers.small(rng, 2) for _ in market[2][1:]]
            cost, given, holdings = cost_of(market, 0, values)
            change = rng.randrange(5)
            if change == 0:
                cost = makers.small(rng)
            elif change == 1:
                given[rng.randrange(len(given))] = (rng.randint(0, 1), 1)
            else:
                holdings[rng.randrange(len(holdings))] = (rng.randint(-2, 2), 1)
            expected = second.is_cost_paper(market, 0, values, (cost, given, holdings))
            found[expected] += 1
            self.told(expected, values, cost, given, holdings, market)
        self.assertGreater(min(found.values()), 30)


if __name__ == "__main__":
    unittest.main()
