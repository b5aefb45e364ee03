import copy
import unittest
from fractions import Fraction

from surehedge.errors import BadGrowth, BadName, BadNumber, BadParent, BadRule, BadSize
from surehedge.markets import (
    check_market,
    children,
    gains,
    inner_nodes,
    is_name,
    keeps_rules,
    leaves,
    path_to,
    wealth_in,
)
from tests.helpers import call_kept, check_new, node, stock_market, tree, two_asset_market

BIG = 10 ** 24 + 7
BAD_NUMBERS = [
    (2, 4), (1, 0), (1, -1), [1, 1], (1,), (1, 1, 1), (True, 1), (1, True), "1", None, 5,
    (10 ** 12, 1), (-(10 ** 12), 1), (1, 10 ** 12),
]
GOOD_NUMBERS = [(10 ** 12 - 1, 1), (1 - 10 ** 12, 1), (1, 10 ** 12 - 1), (0, 1), (-1, 3)]
PARENT, GROWTH, RULES, PRICES, PAYOUTS, VALUES = range(6)


def changed(market, place, field, value):
    """A copy of the market in which this field of the node at this place is another one."""
    assets, seen, nodes = copy.deepcopy(market)
    row = list(nodes[place])
    row[field] = value
    nodes[place] = tuple(row)
    return (assets, seen, nodes)


class Names(unittest.TestCase):
    def test_names(self):
        for value in ["a", "z", "a1", "stock", "abcdefghijkl", "a00000000009", "zz9"]:
            self.assertIs(is_name(value), True, value)

    def test_not_names(self):
        wrong = [
            "", "abcdefghijklm", "1a", "9", "_a", "a_b", "A", "aB", "a b", " a", "a ", "a\n", "\na", "a-b", "a.b",
            "\u00e9", "a\u00e9", "a\u0661", "\u0661", "{", "`", "a{", "a/", "a:", "a@",
            None, 1, True, b"a", ["a"], ("a",), {"a": 1}, object(), 1.5, str, [], (),
        ]
        for value in wrong:
            self.assertIs(is_name(value), False, value)


class Checks(unittest.TestCase):
    def refused(self, error, market):
        with self.assertRaises(error) as caught:
            call_kept(self, check_market, market)
        self.assertIs(caught.exception.__class__, error)

    def passed(self, market):
        self.assertIsNone(call_kept(self, check_market, market))

    def test_good_markets(self):
        self.passed(stock_market())
        self.passed(two_asset_market())
        self.passed(tree([-1]))

    def test_assets(self):
        names = ["a", "b", "c", "d", "e"]
        for many in range(6):
            market = (names[:many], [], [node(-1, [1] * many)])
            if 1 <= many <= 4:
                self.passed(market)
            else:
                self.refused(BadSize, market)

    def test_seen(self):
        names = ["a", "b", "c", "d", "e"]
        for many in range(6):
            market = (["stock"], names[:many], [node(-1, [1], values=[2] * many)])
            if many <= 4:
                self.passed(market)
            else:
                self.refused(BadSize, market)

    def test_many_nodes(self):
        row = [place - 1 for place in range(62)]
        self.refused(BadSize, tree([]))
        for many in (1, 2, 59, 60):
            self.passed(tree(row[:many]))
        for many in (61, 62):
            self.refused(BadSize, tree(row[:many]))

    def test_many_children(self):
        for many in range(9):
            for parents in ([-1] + [0] * many, [-1, 0] + [1] * many):
                if many <= 6:
                    self.passed(tree(parents))
                else:
                    self.refused(BadSize, tree(parents))
        self.passed(tree([-1] + [0] * 5 + [5] * 6 + [0]))
        self.refused(BadSize, tree([-1] + [0] * 5 + [5] * 6 + [0, 0]))

    def test_names(self):
        good = ["a", "abcdefghijkl", "z9"]
        bad = ["", "abcdefghijklm", "1a", "Stock", "stocK", "a b", None, 5, True, ["a"], ("a",), b"a", {"a": 1}]
        for name in good:
            self.passed(([name], ["seen"], [node(-1, [1], values=[1])]))
            self.passed((["stock"], [name], [node(-1, [1], values=[1])]))
        for name in bad:
            self.refused(BadName, ([name], ["seen"], [node(-1, [1], values=[1])]))
            self.refused(BadName, (["stock", name], ["seen"], [node(-1, [1, 1], values=[1])]))
            self.refused(BadName, (["stock"], [name], [node(-1, [1], values=[1])]))
            self.refused(BadName, (["stock"], ["seen", name], [node(-1, [1], values=[1, 1])]))

    def test_names_twice(self):
        self.refused(BadName, (["a", "a"], [], [node(-1, [1, 1])]))
        self.refused(BadName, (["a", "b", "a"], [], [node(-1, [1, 1, 1])]))
        self.refused(BadName, (["a"], ["a"], [node(-1, [1], values=[1])]))
        self.refused(BadName, (["a"], ["b", "b"], [node(-1, [1], values=[1, 1])]))
        self.refused(BadName, (["a", "b"], ["c", "b"], [node(-1, [1, 1], values=[1, 1])]))

    def test_parent_of_the_root(self):
        self.passed(tree([-1, 0, 0]))
        for parent in (0, 1, -2, True, False, None, "-1", -1.0, (-1, 1), [-1], 5):
            self.refused(BadParent, tree([parent, 0, 0]))

    def test_parents(self):
        for parent in (0, 1, 2):
            self.passed(tree([-1, 0, 1, parent, 0]))
        for parent in (-1, 3, 4, 5, -2, True, False, None, "0", 0.0, 1.0, (0, 1), [0], "root", 10 ** 30):
            self.refused(BadParent, tree([-1, 0, 1, parent, 0]))
        self.refused(BadParent, tree([-1, 1]))
        self.refused(BadParent, tree([-1, -1]))

    def test_growth(self):
        for place in range(3):
            for growth in [(1, 1), (1, 10 ** 12 - 1), (10 ** 12 - 1, 1), (1, 2), (21, 20)]:
                self.passed(changed(stock_market(), place, GROWTH, growth))
            for growth in BAD_NUMBERS:
                self.refused(BadNumber, changed(stock_market(), place, GROWTH, growth))
            for growth in [(0, 1), (-1, 1), (-1, 10 ** 12 - 1), (1 - 10 ** 12, 1)]:
                self.refused(BadGrowth, changed(stock_market(), place, GROWTH, growth))

    def test_rules(self):
        market = two_asset_market()
        for place in range(5):
            for rules in (["any", "long"], ["short", "none"], ["none", "none"]):
                self.passed(changed(market, place, RULES, rules))
            for rules in ([], ["any"], ["any", "any", "any"], ["bad"], ["bad", "bad", "bad"]):
                self.refused(BadSize, changed(market, place, RULES, rules))
            for rule in ("", "Any", "all", None, 1, True, ["any"], ("any",), {"any": 1}, b"any", "any "):
                self.refused(BadRule, changed(market, place, RULES, [rule, "any"]))
                self.refused(BadRule, changed(market, place, RULES, ["any", rule]))

    def test_lists_of_numbers(self):
        market = two_asset_market()
        for field, many in ((PRICES, 2), (PAYOUTS, 2), (VALUES, 1)):
            for place in (0, 1, 4):
                for length in range(4):
                    other = changed(market, place, field, [(1, 2)] * length)
                    if length == many:
                        self.passed(other)
                    else:
                        self.refused(BadSize, other)
                        self.refused(BadSize, changed(market, place, field, [None] * length))
                for at in range(many):
                    for value in BAD_NUMBERS:
                        numbers = [(1, 1)] * many
                        numbers[at] = value
                        self.refused(BadNumber, changed(market, place, field, numbers))
                    for value in GOOD_NUMBERS:
                        numbers = [(1, 1)] * many
                        numbers[at] = value
                        self.passed(changed(market, place, field, numbers))


class Order(unittest.TestCase):
    """Two things wrong: the one that is told first is due."""

    def setUp(self):
        self.faults = [
            (BadName, lambda market: (["stock", "2x"],) + market[1:]),
            (BadParent, lambda market: changed(market, 0, PARENT, 0)),
            (BadNumber, lambda market: changed(market, 0, GROWTH, (2, 2))),
            (BadGrowth, lambda market: changed(market, 0, GROWTH, (0, 1))),
            (BadSize, lambda market: changed(market, 0, RULES, ["any"])),
            (BadRule, lambda market: changed(market, 0, RULES, ["any", "all"])),
            (BadSize, lambda market: changed(market, 0, PRICES, [(1, 1)])),
            (BadNumber, lambda market: changed(market, 0, PRICES, [(1, 1), (2, 2)])),
            (BadSize, lambda market: changed(market, 0, PAYOUTS, [(1, 1)])),
            (BadNumber, lambda market: changed(market, 0, PAYOUTS, [(1, 1), (2, 2)])),
            (BadSize, lambda market: changed(market, 0, VALUES, [])),
            (BadNumber, lambda market: changed(market, 0, VALUES, [(2, 2)])),
            (BadParent, lambda market: changed(market, 1, PARENT, 1)),
            (BadNumber, lambda market: changed(market, 1, GROWTH, None)),
            (BadRule, lambda market: changed(market, 1, RULES, [None, "any"])),
            (BadNumber, lambda market: changed(market, 1, PRICES, [None, (1, 1)])),
            (BadGrowth, lambda market: changed(market, 4, GROWTH, (-1, 1))),
            (BadNumber, lambda market: changed(market, 4, VALUES, [None])),
            (BadSize, lambda market: (market[0], market[1], market[2] + [market[2][4]] * 5 + [market[2][4]])),
        ]

    def test_each_alone_and_all_pairs(self):
        for first, (error, spoil_first) in enumerate(self.faults):
            for _, spoil_second in self.faults[first:]:
                # The later fault is put in first, so that the earlier one replaces it where they are at one place.
                market = spoil_first(spoil_second(two_asset_market()))
                with self.assertRaises(error) as caught:
                    check_market(market)
                self.assertIs(caught.exception.__class__, error)

    def test_sizes_ahead_of_names(self):
        rows = [node(-1, [1])]
        many = [node(place - 1, [1]) for place in range(61)]
        for market in (
            (["A"] * 5, [], rows),
            (["A"], ["B"] * 5, rows),
            (["A"], [], []),
            (["A"], [], many),
            ([], ["B"], rows),
        ):
            self.assertRaises(BadSize, check_market, market)

    def test_names_ahead_of_nodes(self):
        self.assertRaises(BadName, check_market, (["A"], [], [node(5, [1])]))
        self.assertRaises(BadName, check_market, (["a"], ["a"], [node(5, [1])]))

    def test_children_behind_all_nodes(self):
        market = tree([-1] + [0] * 7 + [99])
        self.assertRaises(BadParent, check_market, market)
        market = changed(tree([-1] + [0] * 8), 8, PRICES, [(2, 2)])
        self.assertRaises(BadNumber, check_market, market)

    def test_earlier_node_ahead_of_later_one(self):
        market = changed(changed(stock_market(), 1, PAYOUTS, []), 2, PARENT, 7)
        self.assertRaises(BadSize, check_market, market)


class Trees(unittest.TestCase):
    SHAPES = [
        [-1],
        [-1, 0],
        [-1, 0, 0],
        [-1, 0, 1, 0, 1, 3, 2],
        [-1, 0, 0, 0, 0, 0, 0],
        [-1, 0, 0, 1, 2, 1, 2, 3, 3],
        [place - 1 for place in range(60)],
    ]

    def test_shapes(self):
        for parents in self.SHAPES:
            market = tree(parents)
            everything = range(len(parents))
            for place in everything:
                expected = [each for each in everything if parents[each] == place]
                self.assertEqual(check_new(self, children, market, place), expected)
                path = [place]
                while path[0] != 0:
                    path.insert(0, parents[path[0]])
                self.assertEqual(check_new(self, path_to, market, place), path)
            inner = [each for each in everything if each in parents]
            self.assertEqual(check_new(self, inner_nodes, market), inner)
            self.assertEqual(check_new(self, leaves, market), [each for each in everything if each not in inner])

    def test_root_alone(self):
        market = tree([-1])
        self.assertEqual(children(market, 0), [])
        self.assertEqual(path_to(market, 0), [0])
        self.assertEqual(leaves(market), [0])
        self.assertEqual(inner_nodes(market), [])

    def test_in_a_row(self):
        market = tree([place - 1 for place in range(60)])
        self.assertEqual(path_to(market, 59), list(range(60)))
        self.assertEqual(leaves(market), [59])
        self.assertEqual(inner_nodes(market), list(range(59)))

    def test_plain(self):
        market = tree([-1, 0, 1, 0, 1, 3, 2])
        self.assertEqual(children(market, 1), [2, 4])
        self.assertEqual(path_to(market, 6), [0, 1, 2, 6])
        self.assertEqual(leaves(market), [4, 5, 6])
        self.assertEqual(inner_nodes(market), [0, 1, 2, 3])


class Holdings(unittest.TestCase):
    def test_example(self):
        market = stock_market()
        self.assertEqual(gains(market, 0), [[(20, 1)], [(-10, 1)]])
        self.assertEqual(wealth_in(market, 0, 2, (5, 1), [(1, 2)]), (0, 1))

    def test_gains(self):
        market = two_asset_market()
        # 120 + 2 - 110, 49 + 1/2 - 55; -90/7 - 1 - 110, 51 - 55
        expected = [[(12, 1), (-11, 2)], [(-867, 7), (-4, 1)]]
        self.assertEqual(check_new(self, gains, market, 0), expected)
        self.assertEqual(check_new(self, gains, market, 1), [[(10, 1), (6, 1)], [(-10, 1), (1, 1)]])

    def test_wealth(self):
        market = two_asset_market()
        holdings = [(2, 1), (-3, 1)]
        # 11/10 * 10 + 2 * 12 + 3 * 11/2, and 11/10 * 10 - 2 * 867/7 + 3 * 4
        self.assertEqual(call_kept(self, wealth_in, market, 0, 1, (10, 1), holdings), (103, 2))
        self.assertEqual(wealth_in(market, 0, 2, (10, 1), holdings), (-1573, 7))
        self.assertEqual(wealth_in(market, 0, 2, (-10, 1), [(0, 1), (0, 1)]), (-11, 1))
        # Holdings that do not keep the rules are reckoned with as well.
        self.assertEqual(wealth_in(market, 1, 3, (0, 1), [(5, 1), (0, 1)]), (50, 1))

    def test_any_size(self):
        market = two_asset_market()
        result = wealth_in(market, 0, 1, (BIG, 3), [(BIG, 1), (-1, BIG)])
        expected = Fraction(11, 10) * Fraction(BIG, 3) + 12 * BIG + Fraction(11, 2) / BIG
        self.assertEqual(result, (expected.numerator, expected.denominator))
        self.assertTrue(keeps_rules(market, 0, [(BIG, 3), (-1, BIG)]))
        self.assertFalse(keeps_rules(market, 0, [(-1, BIG), (-1, BIG)]))

    def test_rules(self):
        allowed = {"any": "-0+", "long": "0+", "short": "-0", "none": "0"}
        amounts = {"-": (-1, 3), "0": (0, 1), "+": (1, 10 ** 20)}
        for rule, good in allowed.items():
            market = (["a", "b"], [], [node(-1, [1, 1], rules=["any", rule]), node(0, [1, 1], rules=[rule, "any"])])
            for sign, amount in amounts.items():
                for other in amounts.values():
                    told = call_kept(self, keeps_rules, market, 0, [other, amount])
                    self.assertIs(told, sign in good)
                    told = call_kept(self, keeps_rules, market, 1, [amount, other])
                    self.assertIs(told, sign in good)

    def test_the_rules_of_the_node_itself_count(self):
        market = two_asset_market()
        self.assertIs(keeps_rules(market, 0, [(1, 1), (-1, 1)]), True)
        self.assertIs(keeps_rules(market, 1, [(1, 1), (-1, 1)]), False)
        self.assertIs(keeps_rules(market, 1, [(0, 1), (1, 1)]), True)
        self.assertIs(keeps_rules(market, 0, [(0, 1), (1, 1)]), False)


if __name__ == "__main__":
    unittest.main()
