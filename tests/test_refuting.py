import copy
import random
import unittest
from fractions import Fraction

from surehedge.capital import capitals
from surehedge.errors import NotFree
from surehedge.games import game_of, reached
from surehedge.plans import best_plan, follow, needs
from surehedge.refuting import best_refutation, is_refutation, play_against, shown
from surehedge.weights import extreme_weights
from tests import makers, second
from tests.helpers import call_kept, check_new, node, stock_market, tree
from tests.test_capital import CALL, EARLY, always, choice, fixed, pay, random_case, two_steps, unfree_market
from tests.test_plans import five_choices, held, numbers, random_plan

BIG = 10 ** 30
THIRD = ("end", [(1, 3), (2, 3)])
LEAF = ("end", [])


def weighed(*values):
    return ("end", numbers(*values))


def three_way():
    """The stock goes from 100 to 120, 100 or 90."""
    return (["stock"], [], [node(-1, [100]), node(0, [120]), node(0, [100]), node(0, [90])])


def random_refutation(rng, market, book):
    """Some refutation for the book."""
    return [
        random_tree(rng, market, place, game_of(market, book, place, state))
        for place, state in reached(market, book)
    ]


def random_tree(rng, market, place, game):
    if game[0] == "end":
        lists = extreme_weights(market, place)
        if not lists:
            return LEAF
        parts = [rng.randint(0, 3) for _ in lists[1:]] + [1]
        return ("end", [
            second.number_of(sum(part * Fraction(*each[k]) for part, each in zip(parts, lists)) / sum(parts))
            for k in range(len(lists[0]))
        ])
    below = tuple(random_tree(rng, market, place, each) for each in game[2:])
    return (("theirs", rng.randint(0, 1)) if game[0] == "theirs" else ("ours",)) + below


def spoilt_refutation(rng, refutation):
    """A copy of the refutation with one thing changed, often a wrong one."""
    kind = rng.randrange(8)
    if kind == 0:
        return refutation[:-1]
    if kind == 1:
        return refutation + [rng.choice(refutation)]
    refutation = copy.deepcopy(refutation)
    place = rng.randrange(len(refutation))
    refutation[place] = spoilt_tree(rng, refutation[place])
    return refutation


def spoilt_tree(rng, tree):
    if rng.random() < 0.1:
        return rng.choice([LEAF, weighed(1), ("ours", LEAF, LEAF), ("theirs", 0, LEAF, LEAF)])
    if tree[0] == "end":
        values = list(tree[1])
        if values and rng.random() < 0.7:
            values[rng.randrange(len(values))] = rng.choice([(0, 1), (1, 2), (1, 1), (-1, 1), (1, 3)])
        else:
            values = rng.choice([values + [(0, 1)], values[1:], [(1, 1)], []])
        return ("end", values)
    parts = list(tree)
    place = rng.randrange(1, len(parts))
    if isinstance(parts[place], tuple):
        parts[place] = spoilt_tree(rng, parts[place])
    else:
        parts[place] = rng.choice([0, 1, 2, -1])
    return tuple(parts)


class IsRefutation(unittest.TestCase):
    def told(self, right, market, book, refutation):
        self.assertIs(call_kept(self, is_refutation, market, book, refutation), right)

    def test_one_tree_for_each_pair(self):
        market = stock_market()
        good = [THIRD, LEAF, LEAF]
        self.told(True, market, [], good)
        self.told(True, market, [("written", CALL)], good)
        for wrong in ([], good[:1], good[:2], good + [LEAF], good + [THIRD], good + good):
            self.told(False, market, [], wrong)
        self.told(True, tree([-1]), [], [LEAF])
        self.told(False, tree([-1]), [], [])

    def test_weights(self):
        market = three_way()
        ends = [LEAF] * 3
        for good in (((1, 3), 0, (2, 3)), (0, 1, 0), ((1, 6), (1, 2), (1, 3)), ((1, BIG), (BIG - 3, BIG), (2, BIG))):
            self.told(True, market, [], [weighed(*good)] + ends)
        for wrong in (
            (), (1,), ((1, 3), (2, 3)), (0, 1), (0, 1, 0, 0), ((1, 3), (1, 3), (1, 3)), (1, 0, 0), (0, 0, 0), (0, 2, 0),
            ((-1, 3), 2, (-2, 3)), ((1, 3), (-1, 3), (2, 3)),
        ):
            self.told(False, market, [], [weighed(*wrong)] + ends)
        for wrong in ((0,), (1,), (0, 1, 0)):
            for place in range(3):
                changed = [weighed(0, 1, 0)] + ends
                changed[place + 1] = weighed(*wrong)
                self.told(False, market, [], changed)

    def test_weights_of_another_node(self):
        market = two_steps()
        market[2][1] = node(0, [120], rules=["none"])
        good = [THIRD, THIRD, THIRD] + [LEAF] * 4
        self.told(True, market, [], good)
        half = weighed((1, 2), (1, 2))
        for place, right in ((0, False), (1, True), (2, False)):
            changed = list(good)
            changed[place] = half
            self.told(right, market, [], changed)

    def test_shapes(self):
        market = tree([-1])
        ours = [("x", choice("writer", pay(1), pay(2)))]
        theirs = [("x", choice("holder", pay(1), pay(2)))]
        trees = (
            LEAF, ("theirs", 0, LEAF, LEAF), ("theirs", 1, LEAF, LEAF), ("ours", LEAF, LEAF),
            ("theirs", 0, ("theirs", 0, LEAF, LEAF), LEAF), ("theirs", 0, LEAF, ("ours", LEAF, LEAF)),
            ("ours", ("theirs", 0, LEAF, LEAF), LEAF), ("ours", LEAF, ("ours", LEAF, LEAF)),
            ("theirs", -1, LEAF, LEAF), ("theirs", 2, LEAF, LEAF), ("theirs", 10 ** 20, LEAF, LEAF),
            ("theirs", 0, LEAF, weighed(1)), ("theirs", 0, weighed(0), LEAF), ("ours", LEAF, weighed(1)),
        )
        for contract, good in ((fixed(1), (0,)), (theirs, (1, 2)), (ours, (3,))):
            for place, each in enumerate(trees):
                self.told(place in good, market, [("written", contract)], [each])
        both = [("held", ours), ("held", theirs)]
        last = ("ours", LEAF, LEAF)
        self.told(True, market, both, [("theirs", 0, last, last)])
        for wrong in (("theirs", 0, last, LEAF), ("theirs", 0, LEAF, last), ("ours", last, last), last):
            self.told(False, market, both, [wrong])

    def test_random_refutations(self):
        rng = random.Random(1)
        found = {True: 0, False: 0}
        for _ in range(300):
            market, book = random_case(rng, 6)
            refutation = random_refutation(rng, market, book)
            self.told(True, market, book, refutation)
            refutation = spoilt_refutation(rng, refutation)
            expected = second.is_refutation(market, book, refutation)
            found[expected] += 1
            self.told(expected, market, book, refutation)
        self.assertGreater(min(found.values()), 40)


class Shown(unittest.TestCase):
    def told(self, expected, market, book, refutation):
        self.assertIs(is_refutation(market, book, refutation), True)
        self.assertEqual(check_new(self, shown, market, book, refutation), numbers(*expected))

    def test_a_leaf(self):
        self.told([7], tree([-1]), [("written", fixed(7))], [LEAF])
        self.told([-7], tree([-1]), [("held", fixed(7))], [LEAF])
        self.told([0], tree([-1]), [], [LEAF])

    def test_an_inner_node(self):
        market = three_way()
        for given, expected in ((((1, 3), 0, (2, 3)), 5), ((0, 1, 0), 0), (((1, 6), (1, 2), (1, 3)), (5, 2))):
            self.told([expected, 15, 0, 0], market, [("written", CALL)], [weighed(*given)] + [LEAF] * 3)

    def test_growth_and_payments(self):
        nodes = [node(-1, [100], growth=(6, 5)), node(0, [140]), node(0, [90])]
        book = [("written", CALL), ("written", fixed(1))]
        refutation = [weighed((3, 5), (2, 5)), LEAF, LEAF]
        self.told([(37, 2), 35, 0], (["stock"], [], nodes), book, refutation)

    def test_choices(self):
        market = stock_market()
        above = ("pay", ("plus", ("name", "stock"), ("number", (-90, 1))))
        theirs = [("x", choice("holder", pay(3), ("next", "y"))), ("y", above)]
        behind = [LEAF] * 4
        for move, expected in ((0, 3), (1, 10)):
            self.told([expected, 0, 30, 0, 0], market, [("written", theirs)], [("theirs", move, THIRD, THIRD)] + behind)
        ours = [("x", choice("writer", pay(3), ("next", "y"))), ("y", above)]
        self.told([3, 0, 30, 0, 0], market, [("written", ours)], [("ours", THIRD, THIRD)] + behind)
        ours = [("x", choice("writer", pay(30), ("next", "y"))), ("y", above)]
        self.told([10, 0, 30, 0, 0], market, [("written", ours)], [("ours", THIRD, THIRD)] + behind)

    def test_random_refutations(self):
        rng = random.Random(2)
        for _ in range(200):
            market, book = random_case(rng)
            refutation = random_refutation(rng, market, book)
            found = call_kept(self, shown, market, book, refutation)
            self.assertEqual(found, second.shown(market, book, refutation))
            for each, capital in zip(found, capitals(market, book)):
                self.assertLessEqual(Fraction(*each), Fraction(*capital))

    def test_at_most_the_need_of_each_plan_in_every_market(self):
        # In this market node 2 is not free, but has weights; all weight stands on its first child.
        nodes = [node(-1, [100]), node(0, [120]), node(0, [90]), node(1, [120]), node(2, [90]), node(2, [95])]
        market = (["stock"], [], nodes)
        book = [("written", CALL)]
        refutation = [THIRD, weighed(1), weighed(1, 0), LEAF, LEAF, LEAF]
        self.told([5, 15, 0, 15, 0, 0], market, book, refutation)
        rng = random.Random(3)
        for _ in range(40):
            for least, most in zip(shown(market, book, refutation), needs(market, book, random_plan(rng, market, book))):
                self.assertLessEqual(Fraction(*least), Fraction(*most))


class Best(unittest.TestCase):
    def right(self, market, book):
        refutation = check_new(self, best_refutation, market, book)
        self.assertIs(is_refutation(market, book, refutation), True)
        self.assertTrue(second.is_refutation(market, book, refutation))
        self.assertEqual(shown(market, book, refutation), capitals(market, book))
        self.assertEqual(second.shown(market, book, refutation), capitals(market, book))
        return refutation

    def test_by_hand(self):
        self.assertEqual(self.right(stock_market(), [("written", CALL)]), [THIRD, LEAF, LEAF])
        self.assertEqual(self.right(three_way(), [("held", CALL)])[0], weighed(0, 1, 0))
        self.assertEqual(self.right(tree([-1]), []), [LEAF])

    def test_moves(self):
        for first, last, move in ((1, 2, 1), (2, 1, 0)):
            theirs = [("x", choice("holder", pay(first), pay(last)))]
            self.assertEqual(self.right(tree([-1]), [("written", theirs)]), [("theirs", move, LEAF, LEAF)])
            self.assertEqual(self.right(tree([-1]), [("held", theirs)]), [("ours", LEAF, LEAF)])

    def test_some_books(self):
        for book in ([], [("written", EARLY)], [("held", EARLY)], [("written", always(3)), ("held", EARLY)]):
            self.right(stock_market(), book)
            self.right(two_steps(), book)
            self.right(three_way(), book)

    def test_random_books(self):
        rng = random.Random(4)
        for _ in range(120):
            self.right(*random_case(rng))

    def test_not_free(self):
        for book in ([], [("written", CALL)], [("written", [("a", five_choices())])]):
            with self.assertRaises(NotFree) as caught:
                call_kept(self, best_refutation, unfree_market(), book)
            self.assertEqual(caught.exception.node, 1)


class PlaysAgainst(unittest.TestCase):
    def lost(self, market, book, plan, wealth):
        """Tests that following the play ends in a leaf with less than is paid there."""
        play = check_new(self, play_against, market, book, plan, wealth=wealth)
        steps = follow(market, book, plan, wealth=wealth, play=play)
        self.assertEqual(second.children(market, steps[-1][0]), [])
        self.assertLess(Fraction(*steps[-1][2]), Fraction(*steps[-1][3]))
        return play

    def each_wealth(self, market, book, plan):
        need = Fraction(*needs(market, book, plan)[0])
        for more in (0, Fraction(1, BIG), 1, BIG):
            wealth = second.number_of(need + more)
            self.assertIsNone(call_kept(self, play_against, market, book, plan, wealth=wealth))
        for less in (Fraction(1, BIG), Fraction(1, 3), 1, BIG):
            self.lost(market, book, plan, second.number_of(need - less))

    def test_by_hand(self):
        market = stock_market()
        book = [("written", CALL)]
        self.each_wealth(market, book, [held((1, 2)), held(), held()])
        plan = [held(1), held(), held()]
        # With all of the stock, too little is left if it falls.
        self.assertEqual(self.lost(market, book, plan, (10 * BIG - 1, BIG)), [(0, []), (2, [])])
        plan = [held(0), held(), held()]
        self.assertEqual(self.lost(market, book, plan, (15 * BIG - 1, BIG)), [(0, []), (1, [])])
        self.assertEqual(self.lost(market, book, plan, (0, 1)), [(0, []), (1, [])])
        self.each_wealth(market, book, plan)

    def test_a_leaf_alone(self):
        theirs = [("x", choice("holder", pay(1), choice("holder", pay(3), pay(2))))]
        plan = [("theirs", LEAF, ("theirs", LEAF, LEAF))]
        self.each_wealth(tree([-1]), [("written", theirs)], plan)
        self.assertEqual(self.lost(tree([-1]), [("written", theirs)], plan, (5, 2)), [(0, [1, 0])])
        self.assertIsNone(play_against(tree([-1]), [], [LEAF], wealth=(0, 1)))
        self.assertEqual(self.lost(tree([-1]), [], [LEAF], (-1, BIG)), [(0, [])])

    def test_moves_of_both_sides(self):
        contract = [("x", choice("writer", choice("holder", pay(5), pay(3)), choice("holder", pay(1), pay(9))))]
        for move, need, moves in ((0, 5, [0]), (1, 9, [1])):
            plan = [("ours", move, ("theirs", LEAF, LEAF), ("theirs", LEAF, LEAF))]
            self.each_wealth(tree([-1]), [("written", contract)], plan)
            self.assertEqual(self.lost(tree([-1]), [("written", contract)], plan, (need * 2 - 1, 2)), [(0, moves)])

    def test_random_plans(self):
        rng = random.Random(5)
        for _ in range(100):
            market, book = random_case(rng)
            self.each_wealth(market, book, random_plan(rng, market, book))
            self.each_wealth(market, book, best_plan(market, book))

    def test_a_market_that_is_not_free(self):
        plan = [held(0), held(2), held(-1), LEAF, LEAF]
        self.each_wealth(unfree_market(), [("written", CALL)], plan)
        rng = random.Random(6)
        for _ in range(60):
            market = makers.market(rng)
            book = [("written", fixed(5)), ("held", always(1))]
            self.each_wealth(market, book, random_plan(rng, market, book))


if __name__ == "__main__":
    unittest.main()
