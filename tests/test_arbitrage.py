import copy
import random
import unittest

from surehedge.arbitrage import arbitrage_of, judge_arbitrage, win, wins
from surehedge.weights import mean_weights, unfree_node
from tests import makers, second
from tests.helpers import call_kept, check_new, node, stock_market, tree, two_asset_market

BIG = 10 ** 30


def numbers(*values):
    return [(each, 1) if isinstance(each, int) else each for each in values]


def unfree_market():
    """Two steps; node 2 is the first node that is not free: there the stock never falls."""
    nodes = [node(-1, [100]), node(0, [120]), node(0, [90]), node(1, [130]), node(1, [110])]
    return (["stock"], [], nodes + [node(2, [95]), node(2, [90])])


class Wins(unittest.TestCase):
    def told(self, right, market, place, holdings):
        self.assertIs(call_kept(self, wins, market, place, numbers(*holdings)), right)

    def test_win(self):
        market = two_asset_market()
        # Gains of node 1: 120 + 2 - 110 and 49 + 1/2 - 55; of node 2: -90/7 - 1 - 110 and 51 - 55.
        self.assertEqual(call_kept(self, win, market, 1, numbers(1, 2)), (1, 1))
        self.assertEqual(win(market, 1, numbers(0, (-1, 11))), (1, 2))
        self.assertEqual(win(market, 2, numbers(7, 0)), (-867, 1))
        self.assertEqual(win(market, 2, numbers(0, BIG)), (-4 * BIG, 1))
        # The parent of node 3 is node 1, of growth 1.
        self.assertEqual(win(market, 3, numbers(1, 1)), (16, 1))
        self.assertEqual(win(market, 4, numbers((1, BIG), 0)), (-10, BIG) if BIG % 10 else (-1, BIG // 10))

    def test_in_no_child_in_some_child_lost_in_a_child(self):
        for prices, right in (
            ((100, 100, 100), (False, False)),
            ((100, 101, 100), (True, False)),
            ((101, 102, 103), (True, False)),
            ((100, 99, 100), (False, True)),
            ((101, 99, 100), (False, False)),
            ((99, 99, 99), (False, True)),
        ):
            market = (["stock"], [], [node(-1, [100])] + [node(0, [price]) for price in prices])
            self.told(right[0], market, 0, (1,))
            self.told(right[0], market, 0, ((1, BIG),))
            self.told(right[1], market, 0, (-1,))
            self.told(right[1], market, 0, (-BIG,))
            self.told(False, market, 0, (0,))

    def test_growth_counts(self):
        for growth, right in (((1, 1), True), ((11, 10), True), ((12, 10), True), ((13, 10), False)):
            market = (["stock"], [], [node(-1, [100], growth=growth), node(0, [120]), node(0, [130])])
            self.told(right, market, 0, (1,))

    def test_rules(self):
        for rule, right in (
            ("any", (True, True)), ("long", (True, False)), ("short", (False, True)), ("none", (False, False)),
        ):
            rising = (["stock"], [], [node(-1, [100], rules=[rule]), node(0, [120]), node(0, [100])])
            falling = (["stock"], [], [node(-1, [100], rules=[rule]), node(0, [80]), node(0, [100])])
            self.told(right[0], rising, 0, (1,))
            self.told(right[1], falling, 0, (-1,))
            two = (["a", "b"], [], [node(-1, [1, 1], rules=["any", rule]), node(0, [2, 1]), node(0, [3, 1])])
            self.told(right[0], two, 0, (1, 1))
            self.told(right[1], two, 0, (1, (-1, BIG)))
            self.told(True, two, 0, (1, 0))

    def test_at_a_leaf(self):
        for place in (1, 2):
            self.told(False, stock_market(), place, (1,))
        self.told(False, tree([-1]), 0, (1,))
        self.told(False, tree([-1]), 0, ())

    def test_lengths(self):
        market = (["stock", "bond"], [], [node(-1, [100, 1]), node(0, [120, 2])])
        self.told(True, market, 0, (1, 1))
        for holdings in ((), (1,), (1, 1, 1), (1, 0, 0), (1, 1, 1, 1)):
            self.told(False, market, 0, holdings)

    def test_random_holdings(self):
        rng = random.Random(1)
        found = {True: 0, False: 0}
        for _ in range(300):
            market = makers.step_market(rng, rng.randint(1, 3), rng.randint(1, 3))
            holdings = [(rng.randint(-2, 2), 1) for _ in market[0]]
            expected = second.wins(market, 0, holdings)
            found[expected] += 1
            self.told(expected, market, 0, holdings)
            for place in range(len(market[2]) - 1):
                value = second.number_of(second.win(market, 0, place, holdings))
                self.assertEqual(win(market, place + 1, holdings), value)
        self.assertGreater(min(found.values()), 30)


class Answers(unittest.TestCase):
    def right(self, market, word, place=None):
        answer = check_new(self, arbitrage_of, market)
        self.assertEqual(answer[0], word)
        if word == "free":
            self.assertEqual(len(answer), 2)
            self.assertEqual(answer[1], [mean_weights(market, each) for each in range(len(market[2]))])
            for each, weights in enumerate(answer[1]):
                has_children = any(row[0] == each for row in market[2])
                self.assertEqual(weights != [], has_children)
                if has_children:
                    self.assertTrue(second.is_weights(market, each, weights, positive=True))
        else:
            self.assertEqual(len(answer), 3)
            self.assertEqual(answer[1], place)
            self.assertTrue(second.wins(market, place, answer[2]))
        self.assertIs(call_kept(self, judge_arbitrage, market, answer), True)

    def test_the_example(self):
        market = stock_market()
        market[2][0][2][0] = "long"
        self.assertEqual(arbitrage_of(market), ("free", [[(1, 6), (5, 6)], [], []]))

    def test_free(self):
        self.right(tree([-1]), "free")
        self.right(stock_market(), "free")

    def test_the_first_node_is_told(self):
        self.right(unfree_market(), "arbitrage", 2)
        self.right(two_asset_market(), "arbitrage", unfree_node(two_asset_market()))
        for rule, place in (("any", 0), ("short", 1), ("none", 1), ("long", 0)):
            market = (["stock"], [], [node(-1, [100], rules=[rule]), node(0, [110]), node(1, [120])])
            self.right(market, "arbitrage", place)

    def test_random_markets(self):
        rng = random.Random(2)
        words = []
        for _ in range(300):
            market = makers.free_step_market(rng) if rng.random() < 0.4 else makers.step_market(rng)
            word = arbitrage_of(market)[0]
            words.append(word)
            self.right(market, word, 0)
        self.assertGreater(words.count("free"), 80)
        self.assertGreater(words.count("arbitrage"), 80)

    def test_long_numbers(self):
        rng = random.Random(3)
        for assets, children in ((4, 6), (1, 1), (2, 4), (1, 6)):
            market = makers.step_market(rng, assets, children, price=makers.wide)
            self.right(market, arbitrage_of(market)[0], 0)


class Judging(unittest.TestCase):
    def told(self, right, market, answer):
        self.assertIs(call_kept(self, judge_arbitrage, market, answer), right)

    def test_free(self):
        market = (["stock"], [], [node(-1, [100]), node(0, [120]), node(0, [90]), node(1, [130]), node(1, [110])])
        third = numbers((1, 3), (2, 3))
        half = numbers((1, 2), (1, 2))
        good = [third, half, [], [], []]
        self.told(True, market, ("free", good))
        self.told(False, market, ("free", []))
        self.told(False, market, ("free", good[:-1]))
        self.told(False, market, ("free", good + [[]]))
        for place, wrong in (
            (0, []), (0, half), (0, numbers((1, 3))), (0, third + numbers(0)), (0, numbers(1, 2)), (1, third), (1, []),
            (2, numbers(1)), (2, numbers(0)), (3, half), (4, numbers(1)), (1, numbers(1, 1)),
        ):
            changed = list(good)
            changed[place] = wrong
            self.told(False, market, ("free", changed))

    def test_weights_that_are_not_positive(self):
        market = stock_market()
        market[2].append(node(0, [100]))
        self.told(True, market, ("free", [numbers((1, 6), (1, 3), (1, 2)), [], [], []]))
        self.told(True, market, ("free", [numbers((1, BIG), (2, BIG), (BIG - 3, BIG)), [], [], []]))
        self.told(False, market, ("free", [numbers((1, 3), (2, 3), 0), [], [], []]))
        self.told(False, market, ("free", [numbers(0, 0, 1), [], [], []]))
        self.told(False, market, ("free", [numbers((-1, 3), (-2, 3), 2), [], [], []]))

    def test_arbitrage(self):
        market = unfree_market()
        self.told(True, market, ("arbitrage", 2, numbers(1)))
        self.told(True, market, ("arbitrage", 2, numbers((1, BIG))))
        self.told(True, market, ("arbitrage", 2, numbers(BIG)))
        for holdings in ((), (0,), (-1,), (1, 1), (1, 0)):
            self.told(False, market, ("arbitrage", 2, numbers(*holdings)))
        for place in (0, 1, 3, 4, 5, 6, 7, 8, -1, -2, -5, -7, -6, 10 ** 30, -(10 ** 30)):
            for holdings in ((1,), (-1,)):
                self.told(False, market, ("arbitrage", place, numbers(*holdings)))

    def test_places_below_0_are_no_places(self):
        # Counted from the end, the place -2 would be that of the root.
        market = (["stock"], [], [node(-1, [100]), node(0, [120])])
        self.told(True, market, ("arbitrage", 0, numbers(1)))
        self.told(False, market, ("arbitrage", -2, numbers(1)))
        self.told(False, market, ("arbitrage", 1, numbers(1)))
        self.told(False, market, ("arbitrage", 2, numbers(1)))

    def test_any_node_that_is_won_at(self):
        nodes = [node(-1, [100], rules=["any"]), node(0, [110]), node(1, [120])]
        self.told(True, (["stock"], [], nodes), ("arbitrage", 1, numbers(1)))
        self.told(True, (["stock"], [], nodes), ("arbitrage", 0, numbers(2)))

    def test_answers_with_one_thing_changed(self):
        rng = random.Random(4)
        found = {True: 0, False: 0}
        for _ in range(300):
            market = makers.free_step_market(rng, 2, 3) if rng.random() < 0.4 else makers.step_market(rng, 2, 2)
            answer = copy.deepcopy(arbitrage_of(market))
            if answer[0] == "free":
                answer[1][0][rng.randrange(2)] = makers.small(rng)
                expected = second.is_weights(market, 0, answer[1][0], positive=True)
            else:
                answer[2][rng.randrange(2)] = makers.small(rng)
                expected = second.wins(market, 0, answer[2])
            found[expected] += 1
            self.told(expected, market, answer)
        self.assertGreater(min(found.values()), 30)


if __name__ == "__main__":
    unittest.main()
