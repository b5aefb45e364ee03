import itertools
import random
import unittest
from fractions import Fraction

from surehedge.errors import NotFree
from surehedge.weights import check_free, extreme_weights, is_complete, is_weights, mean_weights, unfree_node
from tests import makers, second
from tests.helpers import call_kept, check_new, node, stock_market, tree

BIG = 10 ** 30


def numbers(*values):
    return [(each, 1) if isinstance(each, int) else each for each in values]


def step(rules, gains, growth=(1, 1)):
    """A market of one step with these gains, a row for each child."""
    root = node(-1, [100 for _ in rules], growth=growth, rules=rules)
    start = 100 * Fraction(*growth)
    below = []
    for row in gains:
        prices = [second.number_of(start + (each if isinstance(each, int) else Fraction(*each))) for each in row]
        below.append(node(0, prices))
    return (["a", "b", "c", "d"][: len(rules)], [], [root] + below)


class IsWeights(unittest.TestCase):
    def told(self, right, market, given, place=0, **named):
        self.assertIs(call_kept(self, is_weights, market, place, numbers(*given), **named), right)

    def test_each_rule(self):
        half = ((1, 2), (1, 2))
        for rule, right in {
            "any": (False, True, False), "long": (True, True, False),
            "short": (False, True, True), "none": (True, True, True),
        }.items():
            for mean, told in zip((-1, 0, 1), right):
                self.told(told, step([rule], [[10 + 2 * mean], [-10]]), half)
                self.told(told, step([rule], [[10], [-10 + 2 * mean]], growth=(21, 20)), half)
                self.told(told, step([rule], [[10], [-10 + 2 * mean]]), half, positive=True)

    def test_every_asset_counts(self):
        for place in range(4):
            for rule, gain in (("any", 1), ("any", -1), ("long", 1), ("short", -1)):
                rules = ["any", "long", "short", "none"]
                rows = [[1, 1, 1, 1], [-1, -1, -1, -1]]
                self.told(True, step(rules, rows), ((1, 2), (1, 2)))
                rules[place] = rule
                rows[0][place] += gain
                self.told(False, step(rules, rows), ((1, 2), (1, 2)))

    def test_sum_and_signs(self):
        market = step(["none"], [[1], [2], [3]])
        self.told(True, market, ((1, 2), (1, 3), (1, 6)))
        self.told(True, market, (0, 1, 0))
        self.told(True, market, ((1, BIG), (BIG - 1, BIG), 0))
        for given in ((0, 0, 0), (1, 1, -1), (-1, 1, 1), ((1, 2), (1, 2), (1, 6)), (1, 1, 0), ((1, BIG), 1, 0)):
            self.told(False, market, given)

    def test_positive(self):
        market = step(["none"], [[1], [2], [3]])
        self.told(True, market, ((1, 2), (1, 3), (1, 6)), positive=True)
        self.told(True, market, ((1, BIG), (BIG - 2, BIG), (1, BIG)), positive=True)
        self.told(True, market, (0, (1, 2), (1, 2)), positive=False)
        for given in (((1, 2), (1, 2), 0), (0, 1, 0), (0, (1, 2), (1, 2)), (-1, 1, 1)):
            self.told(False, market, given, positive=True)
        self.told(False, step(["any"], [[1], [1]]), ((1, 2), (1, 2)), positive=True)

    def test_lengths(self):
        market = stock_market()
        self.told(True, market, ((1, 3), (2, 3)))
        for given in ((), (1,), ((1, 3), (2, 3), 0), ((1, 3), (1, 3), (1, 3)), ((1, 3),)):
            self.told(False, market, given)
            self.told(False, market, given, positive=True)

    def test_a_leaf_has_none(self):
        for place in (1, 2):
            for given in ((), (1,), ((1, 2), (1, 2))):
                self.told(False, stock_market(), given, place)
        self.told(False, tree([-1]), ())

    def test_one_child(self):
        self.told(True, step(["any"], [[0]]), (1,))
        self.told(False, step(["any"], [[1]]), (1,))
        self.told(True, step(["long"], [[-1]]), (1,), positive=True)

    def test_random_lists(self):
        rng = random.Random(1)
        found = {True: 0, False: 0}
        for _ in range(300):
            market = makers.free_step_market(rng) if rng.random() < 0.7 else makers.step_market(rng)
            lists = extreme_weights(market, 0)
            given = [(rng.randint(0, 3), 3) for _ in market[2][1:]]
            given = [second.number_of(Fraction(*each)) for each in given]
            if lists and rng.random() < 0.6:
                given = mixed(lists, [rng.randint(0, 2) for _ in lists[1:]] + [1])
            for positive in (False, True):
                expected = second.is_weights(market, 0, given, positive)
                found[expected] += 1
                self.told(expected, market, given, positive=positive)
        self.assertGreater(min(found.values()), 100)


def mixed(lists, parts):
    """A mixture of lists of numbers."""
    return [
        second.number_of(sum(part * Fraction(*each[place]) for part, each in zip(parts, lists)) / sum(parts))
        for place in range(len(lists[0]))
    ]


class Extreme(unittest.TestCase):
    def test_the_example(self):
        market = step(["any"], [[20], [0], [-10]])
        expected = [[(0, 1), (1, 1), (0, 1)], [(1, 3), (0, 1), (2, 3)]]
        self.assertEqual(check_new(self, extreme_weights, market, 0), expected)

    def test_by_hand(self):
        half = (1, 2)
        for rules, rows, expected in (
            (["any"], [[1], [-1]], [[half, half]]),
            (["long"], [[1], [-1]], [[0, 1], [half, half]]),
            (["short"], [[1], [-1]], [[half, half], [1, 0]]),
            (["none"], [[1], [-1]], [[0, 1], [1, 0]]),
            (["any"], [[1], [1]], []),
            (["long"], [[1], [1]], []),
            (["short"], [[1], [1]], [[0, 1], [1, 0]]),
            (["any"], [[0], [0]], [[0, 1], [1, 0]]),
            (["any"], [[0]], [[1]]),
            (["any"], [[3]], []),
            (["none"], [[3]], [[1]]),
            (["any", "any"], [[1, 1], [-1, -1]], [[half, half]]),
            (["any", "any"], [[1, 1], [-1, -2]], []),
            (["any", "long"], [[1, 1], [-1, -2]], [[half, half]]),
            (["any"], [[2], [1], [-1], [-2]], [
                [0, half, half, 0], [0, (2, 3), 0, (1, 3)], [(1, 3), 0, (2, 3), 0], [half, 0, 0, half],
            ]),
        ):
            expected = [numbers(*each) for each in expected]
            self.assertEqual(extreme_weights(step(rules, rows), 0), expected, (rules, rows))

    def test_a_leaf_has_none(self):
        self.assertEqual(extreme_weights(tree([-1]), 0), [])
        self.assertEqual(extreme_weights(stock_market(), 2), [])

    def test_against_another_way(self):
        rng = random.Random(2)
        sizes = []
        for assets, children in itertools.product(range(1, 5), range(1, 7)):
            for trial in range(14):
                if trial % 2 or children == 1:
                    market = makers.step_market(rng, assets, children)
                else:
                    market = makers.free_step_market(rng, assets, children)
                found = extreme_weights(market, 0)
                self.assertEqual(found, second.extreme_weights(market, 0), market)
                sizes.append(len(found))
        self.assertGreater(sizes.count(0), 20)
        self.assertGreater(max(sizes), 8)

    def test_they_are_weights_ascending_and_each_once(self):
        rng = random.Random(3)
        for _ in range(150):
            market = makers.free_step_market(rng, rng.randint(1, 4), rng.randint(2, 6))
            found = check_new(self, extreme_weights, market, 0)
            self.assertNotEqual(found, [])
            values = [second.fractions(each) for each in found]
            self.assertEqual(values, sorted(values))
            self.assertEqual(len(set(map(tuple, found))), len(found))
            for each in found:
                self.assertTrue(second.is_weights(market, 0, each))

    def test_long_numbers(self):
        rng = random.Random(4)
        for children in (2, 4, 6):
            for assets in (1, 2):
                for _ in range(6):
                    market = makers.step_market(rng, assets, children, price=makers.wide)
                    self.assertEqual(extreme_weights(market, 0), second.extreme_weights(market, 0))

    def test_a_node_further_down(self):
        market = stock_market()
        market[2].extend([node(1, [130]), node(2, [80]), node(1, [115]), node(2, [100])])
        self.assertEqual(extreme_weights(market, 0), [[(1, 3), (2, 3)]])
        self.assertEqual(extreme_weights(market, 1), [[(1, 3), (2, 3)]])
        self.assertEqual(extreme_weights(market, 2), [[(1, 2), (1, 2)]])


class Mean(unittest.TestCase):
    def test_by_hand(self):
        self.assertEqual(check_new(self, mean_weights, stock_market(), 0), [(1, 3), (2, 3)])
        self.assertEqual(mean_weights(step(["any"], [[20], [0], [-10]]), 0), [(1, 6), (1, 2), (1, 3)])
        self.assertEqual(mean_weights(step(["long"], [[20], [-10]]), 0), [(1, 6), (5, 6)])
        self.assertEqual(mean_weights(step(["any"], [[1], [1]]), 0), [])
        self.assertEqual(mean_weights(stock_market(), 1), [])
        self.assertEqual(mean_weights(tree([-1]), 0), [])

    def test_they_are_the_mean_of_the_extreme_ones(self):
        rng = random.Random(5)
        for _ in range(100):
            market = makers.free_step_market(rng) if rng.random() < 0.7 else makers.step_market(rng)
            lists = second.extreme_weights(market, 0)
            expected = mixed(lists, [1 for _ in lists]) if lists else []
            found = call_kept(self, mean_weights, market, 0)
            self.assertEqual(found, expected)
            positive = found != [] and min(second.fractions(found)) > 0
            self.assertIs(is_weights(market, 0, found, positive=True), positive)
            self.assertEqual(unfree_node(market), None if positive else 0)


class Free(unittest.TestCase):
    def told(self, market, place, complete):
        self.assertEqual(call_kept(self, unfree_node, market), place)
        self.assertIs(call_kept(self, is_complete, market), complete)
        if place is None:
            self.assertIsNone(call_kept(self, check_free, market))
        else:
            with self.assertRaises(NotFree) as caught:
                call_kept(self, check_free, market)
            self.assertEqual(caught.exception.node, place)

    def test_one_step(self):
        self.told(tree([-1]), None, True)
        self.told(stock_market(), None, True)
        self.told(step(["any"], [[20], [0], [-10]]), None, False)
        self.told(step(["none"], [[20], [10]]), None, False)
        self.told(step(["none"], [[20]]), None, True)
        self.told(step(["any"], [[20]]), 0, False)
        self.told(step(["any"], [[0]]), None, True)
        self.told(step(["long"], [[-1]]), None, True)
        self.told(step(["short"], [[-1]]), 0, False)
        self.told(step(["any"], [[20], [0]]), 0, False)
        self.told(step(["long"], [[20], [0]]), 0, False)
        self.told(step(["short"], [[20], [0]]), None, False)
        self.told(step(["any", "any"], [[1, 0], [0, 1], [-1, -1]]), None, True)
        self.told(step(["any", "long"], [[1, 0], [0, 1], [-1, -1]]), None, False)

    def test_weights_that_are_the_only_ones_but_not_positive(self):
        market = step(["any"], [[20], [0]])
        self.assertEqual(extreme_weights(market, 0), [numbers(0, 1)])
        self.told(market, 0, False)

    def test_the_first_node_that_is_not_free(self):
        def market(*good):
            """Node 0 goes to 1 and 2, these go to two nodes each; good nodes are free."""
            nodes = [node(-1, [100], rules=["none"]), node(0, [100]), node(0, [100])]
            for parent in (2, 1, 1, 2):
                nodes.append(node(parent, [110]))
            for parent in (1, 2):
                if parent in good:
                    nodes.append(node(parent, [90]))
            return (["stock"], [], nodes)

        self.told(market(1, 2), None, False)
        self.told(market(2), 1, False)
        self.told(market(1), 2, False)
        self.told(market(), 1, False)

    def test_complete_at_all_nodes(self):
        nodes = [node(-1, [100]), node(0, [120]), node(0, [90]), node(1, [130]), node(1, [110]), node(2, [90])]
        self.told((["stock"], [], nodes), None, True)
        self.told((["stock"], [], nodes + [node(1, [120])]), None, False)
        self.told((["stock"], [], nodes + [node(2, [90])]), None, False)
        self.told((["stock"], [], nodes + [node(2, [95])]), 2, False)

    def test_free_exactly_with_positive_weights(self):
        rng = random.Random(7)
        for _ in range(200):
            market = makers.step_market(rng, rng.randint(1, 2), rng.randint(1, 4))
            lists = second.extreme_weights(market, 0)
            free = bool(lists) and all(any(each[k] != (0, 1) for each in lists) for k in range(len(lists[0])))
            alone = free and len(lists) == 1
            self.told(market, None if free else 0, alone)


if __name__ == "__main__":
    unittest.main()
