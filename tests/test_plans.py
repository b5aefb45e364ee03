import copy
import random
import unittest
from fractions import Fraction

from surehedge.capital import capitals
from surehedge.errors import BadStep, NotFree
from surehedge.games import game_of, reached
from surehedge.plans import best_plan, follow, is_plan, needs
from tests import makers, second
from tests.helpers import call_kept, check_new, list_ids, node, stock_market, tree
from tests.test_capital import CALL, EARLY, always, choice, fixed, pay, random_case, two_steps, unfree_market

BIG = 10 ** 30


def numbers(*values):
    return [(each, 1) if isinstance(each, int) else each for each in values]


def held(*values):
    return ("end", numbers(*values))


def spoilt_plan(rng, market, book, plan):
    """A copy of the plan with one thing changed, often a wrong one."""
    plan = copy.deepcopy(plan)
    kind = rng.randrange(8)
    if kind == 0:
        return plan[:-1]
    if kind == 1:
        return plan + [rng.choice(plan)]
    place = rng.randrange(len(plan))
    plan[place] = spoilt_tree(rng, market, plan[place])
    return plan


def spoilt_tree(rng, market, tree):
    if rng.random() < 0.1:
        return rng.choice([held(), held(0), ("ours", 0, held(), held()), ("theirs", held(), held())])
    if tree[0] == "end":
        values = list(tree[1])
        if values and rng.random() < 0.7:
            values[rng.randrange(len(values))] = (rng.randint(-1, 1), 1)
        else:
            values = rng.choice([values + [(0, 1)], values[1:], [(0, 1)], []])
        return ("end", values)
    parts = list(tree)
    place = rng.randrange(1, len(parts))
    if isinstance(parts[place], tuple):
        parts[place] = spoilt_tree(rng, market, parts[place])
    else:
        parts[place] = rng.choice([0, 1, 2, -1])
    return tuple(parts)


def random_plan(rng, market, book):
    """Some plan for the book."""
    return [
        random_tree(rng, market, place, game_of(market, book, place, state))
        for place, state in reached(market, book)
    ]


def random_tree(rng, market, place, game):
    if game[0] == "end":
        if not second.children(market, place):
            return ("end", [])
        return ("end", [kept(rng, rule) for rule in market[2][place][2]])
    below = tuple(random_tree(rng, market, place, each) for each in game[2:])
    return (("ours", rng.randint(0, 1)) if game[0] == "ours" else ("theirs",)) + below


def kept(rng, rule):
    """An amount that keeps the rule."""
    n, d = makers.small(rng)
    return {"any": (n, d), "long": (abs(n), d), "short": (-abs(n), d), "none": (0, 1)}[rule]


class IsPlan(unittest.TestCase):
    def told(self, right, market, book, plan):
        self.assertIs(call_kept(self, is_plan, market, book, plan), right)

    def test_one_tree_for_each_pair(self):
        market = stock_market()
        good = [held(1), held(), held()]
        self.told(True, market, [], good)
        self.told(True, market, [("written", CALL)], good)
        for plan in ([], good[:1], good[:2], good + [held()], good + [held(1)], good + good):
            self.told(False, market, [], plan)
        self.told(True, tree([-1]), [], [held()])
        self.told(False, tree([-1]), [], [])

    def test_lists(self):
        market = (["a", "b"], [], [node(-1, [1, 1], rules=["long", "any"]), node(0, [1, 1]), node(1, [1, 1])])
        market[2][1][2][:] = ["short", "none"]
        self.told(True, market, [], [held(1, -1), held(-1, 0), held()])
        self.told(True, market, [], [held(BIG, (-1, BIG)), held((-1, BIG), 0), held()])
        for wrong in (held(), held(1), held(1, 1, 1), held(-1, 0), held((-1, BIG), 0)):
            self.told(False, market, [], [wrong, held(-1, 0), held()])
        for wrong in (held(), held(-1), held(-1, 0, 0), held(1, 0), held(-1, 1), held(-1, -1), held(0, (1, BIG))):
            self.told(False, market, [], [held(1, -1), wrong, held()])
        for wrong in (held(0), held(0, 0), held(1, 1)):
            self.told(False, market, [], [held(1, -1), held(-1, 0), wrong])

    def test_shapes(self):
        market = tree([-1])
        ours = [("x", choice("writer", pay(1), pay(2)))]
        theirs = [("x", choice("holder", pay(1), pay(2)))]
        trees = (
            held(), ("ours", 0, held(), held()), ("ours", 1, held(), held()), ("theirs", held(), held()),
            ("ours", 0, ("ours", 0, held(), held()), held()), ("ours", 0, held(), ("theirs", held(), held())),
            ("theirs", ("ours", 0, held(), held()), held()), ("theirs", held(), ("theirs", held(), held())),
            ("ours", 0, ("ours", 0, held(), held()), ("theirs", held(), held())),
        )
        for contract, good in ((fixed(1), (0,)), (ours, (1, 2)), (theirs, (3,))):
            for place, each in enumerate(trees):
                self.told(place in good, market, [("written", contract)], [each])
        both = [("written", ours), ("written", theirs)]
        last = ("theirs", held(), held())
        self.told(True, market, both, [("ours", 0, last, last)])
        for wrong in (("ours", 0, last, held()), ("ours", 0, held(), last), ("theirs", last, last), last):
            self.told(False, market, both, [wrong])
        deep = held()
        for _ in range(8):
            deep = ("theirs", deep, ("ours", 5, held(1), held()))
        self.told(False, market, both, [deep])

    def test_moves(self):
        market = tree([-1])
        book = [("written", [("x", choice("writer", pay(1), choice("writer", pay(1), pay(2))))])]
        for first in (-2, -1, 0, 1, 2, 10 ** 20):
            for last in (-1, 0, 1, 2):
                plan = [("ours", first, held(), ("ours", last, held(), held()))]
                self.told(first in (0, 1) and last in (0, 1), market, book, plan)

    def test_lists_below_choices(self):
        market = stock_market()
        market[2][0][2][0] = "long"
        book = [("written", [("x", choice("writer", pay(1), choice("holder", pay(1), pay(2))))])]
        lists = ((1,), (0,), (), (-1,), (1, 1))
        for place in range(3):
            for each in lists:
                ends = [held(1), held(1), held(1)]
                ends[place] = held(*each)
                plan = [("ours", 0, ends[0], ("theirs", ends[1], ends[2])), held(), held()]
                self.told(each in lists[:2], market, book, plan)

    def test_random_plans(self):
        rng = random.Random(1)
        found = {True: 0, False: 0}
        for _ in range(300):
            market, book = random_case(rng, 6)
            plan = random_plan(rng, market, book)
            self.told(True, market, book, plan)
            plan = spoilt_plan(rng, market, book, plan)
            expected = second.is_plan(market, book, plan)
            found[expected] += 1
            self.told(expected, market, book, plan)
        self.assertGreater(min(found.values()), 40)


class Needs(unittest.TestCase):
    def told(self, expected, market, book, plan):
        self.assertIs(is_plan(market, book, plan), True)
        self.assertEqual(check_new(self, needs, market, book, plan), numbers(*expected))

    def test_a_leaf(self):
        self.told([7], tree([-1]), [("written", fixed(7))], [held()])
        self.told([-7], tree([-1]), [("held", fixed(7))], [held()])
        self.told([0], tree([-1]), [], [held()])

    def test_an_inner_node_with_several_children(self):
        market = stock_market()
        market[2].append(node(0, [110]))
        # The call pays 15, 0 and 5; one of the stock wins 20, -10 and 10.
        for amount, expected in (
            (0, 15), (1, 10), (-1, 35), ((1, 2), 5), ((1, 3), (25, 3)), ((3, 4), (15, 2)),
            (BIG, 10 * BIG), (-BIG, 15 + 20 * BIG),
        ):
            self.told([expected, 15, 0, 5], market, [("written", CALL)], [held(amount)] + [held()] * 3)
        # Held, it brings -15, 0 and -5.
        for amount, expected in (((-1, 2), 0), (0, 0), (-1, 5), (1, 10), ((-1, 4), (-5, 2))):
            self.told([expected, -15, 0, -5], market, [("held", CALL)], [held(amount)] + [held()] * 3)

    def test_growth(self):
        nodes = [node(-1, [100], growth=(6, 5)), node(0, [140]), node(0, [90])]
        market = (["stock"], [], nodes)
        # The stock wins 20 or loses 30; what is due is 35 or nothing, and at the root 1.
        book = [("written", CALL), ("written", fixed(1))]
        for amount, expected in ((0, (181, 6)), ((7, 10), (37, 2)), (1, 26)):
            self.told([expected, 35, 0], market, book, [held(amount), held(), held()])

    def test_two_steps(self):
        book = [("written", CALL)]
        plan = [held(0), held(1), held(0)] + [held()] * 4
        # From node 1 the call is 39 or 3, and one of the stock wins 24 or -12.
        self.told([15, 15, 3, 39, 3, 3, 0], two_steps(), book, plan)
        plan = [held((1, 2)), held(1), held(0)] + [held()] * 4
        self.told([8, 15, 3, 39, 3, 3, 0], two_steps(), book, plan)

    def test_choices(self):
        market = stock_market()
        above = ("pay", ("plus", ("name", "stock"), ("number", (-90, 1))))
        ours = [("x", choice("writer", pay(3), ("next", "y"))), ("y", above)]
        first, last = held(0), held(1)
        behind = [held(), held(), held(), held()]
        pairs = [(0, [["x"]]), (1, [[]]), (1, [["y"]]), (2, [[]]), (2, [["y"]])]
        self.assertEqual(reached(market, [("written", ours)]), pairs)
        # Held, one of the stock wins 20 or -10; from y 30 or 0 is due.
        for move, expected in ((0, 3), (1, 10)):
            plan = [("ours", move, first, last)] + behind
            self.told([expected, 0, 30, 0, 0], market, [("written", ours)], plan)
            plan = [("ours", move, last, first)] + behind
            self.told([expected + (10 if move == 0 else 20), 0, 30, 0, 0], market, [("written", ours)], plan)
        theirs = [("x", choice("holder", pay(3), ("next", "y"))), ours[1]]
        plan = [("theirs", first, last)] + behind
        self.told([10, 0, 30, 0, 0], market, [("written", theirs)], plan)
        plan = [("theirs", last, last)] + behind
        self.told([13, 0, 30, 0, 0], market, [("written", theirs)], plan)

    def test_random_plans(self):
        rng = random.Random(2)
        for _ in range(200):
            market, book = random_case(rng)
            plan = random_plan(rng, market, book)
            found = call_kept(self, needs, market, book, plan)
            self.assertEqual(found, second.needs(market, book, plan))
            for need, capital in zip(found, capitals(market, book)):
                self.assertGreaterEqual(Fraction(*need), Fraction(*capital))

    def test_a_market_that_is_not_free(self):
        plan = [held(0), held(2), held(-1), held(), held()]
        book = [("written", CALL)]
        # The stock goes from 120 to 130, or from 90 to 80, and nowhere else.
        self.told([5, 5, -10, 25, 0], unfree_market(), book, plan)


class Best(unittest.TestCase):
    def right(self, market, book):
        plan = check_new(self, best_plan, market, book)
        self.assertIs(is_plan(market, book, plan), True)
        self.assertTrue(second.is_plan(market, book, plan))
        self.assertEqual(needs(market, book, plan), capitals(market, book))
        self.assertEqual(second.needs(market, book, plan), capitals(market, book))
        return plan

    def test_by_hand(self):
        self.assertEqual(self.right(stock_market(), [("written", CALL)]), [held((1, 2)), held(), held()])
        self.assertEqual(self.right(stock_market(), [("held", CALL)]), [held((-1, 2)), held(), held()])
        self.assertEqual(self.right(tree([-1]), []), [held()])

    def test_moves(self):
        ours = [("x", choice("writer", pay(1), pay(2)))]
        for contract, move in ((ours, 0), ([("x", choice("writer", pay(2), pay(1)))], 1)):
            self.assertEqual(self.right(tree([-1]), [("written", contract)]), [("ours", move, held(), held())])
        theirs = [("x", choice("holder", pay(1), pay(2)))]
        self.assertEqual(self.right(tree([-1]), [("written", theirs)]), [("theirs", held(), held())])
        self.assertEqual(self.right(tree([-1]), [("held", theirs)]), [("ours", 1, held(), held())])

    def test_some_books(self):
        for book in ([], [("written", EARLY)], [("held", EARLY)], [("written", always(3)), ("held", EARLY)]):
            self.right(stock_market(), book)
            self.right(two_steps(), book)
            self.right(two_steps(growth=(21, 20)), book)

    def test_random_books(self):
        rng = random.Random(3)
        for _ in range(120):
            self.right(*random_case(rng))

    def test_many_pairs(self):
        # Sixteen ends at a node lead to sixteen states, each child has them all.
        names = [("x", choice("writer", ("next", "x"), ("next", "y"))), ("y", choice("holder", pay(1), ("next", "x")))]
        market = makers.free_tree(random.Random(4), [-1, 0, 0, 0, 1, 1, 2, 2, 3, 3], 2)
        self.right(market, [("written", names), ("held", names)])

    def test_not_free(self):
        for book in ([], [("written", CALL)], [("written", [("a", five_choices())])]):
            with self.assertRaises(NotFree) as caught:
                call_kept(self, best_plan, unfree_market(), book)
            self.assertEqual(caught.exception.node, 1)


def five_choices():
    clause = ("nothing",)
    for _ in range(5):
        clause = choice("holder", clause, clause)
    return clause


class Follow(unittest.TestCase):
    def test_to_a_leaf(self):
        market = stock_market()
        book = [("written", CALL)]
        plan = [held((1, 2)), held(), held()]
        for wealth in ((5, 1), (6, 1), (0, 1), (1, 3), (-7, 2), (BIG, 1), (5 * BIG - 1, BIG)):
            up, down = [second.number_of(Fraction(*wealth) + won) for won in (10, -5)]
            start = (0, [["call"]], wealth, (0, 1), [["call"]], numbers((1, 2)))
            for child, there, paid in ((1, up, (15, 1)), (2, down, (0, 1))):
                found = check_new(self, follow, market, book, plan, wealth=wealth, play=[(0, []), (child, [])])
                self.assertEqual(found, [start, (child, [["call"]], there, paid, [[]], [])])
            self.assertEqual(follow(market, book, plan, wealth=wealth, play=[(0, [])]), [start])

    def test_no_steps(self):
        self.assertEqual(follow(stock_market(), [], [held(1), held(), held()], wealth=(1, 1), play=[]), [])

    def test_choices(self):
        market = stock_market()
        book = [("written", EARLY), ("held", [("x", choice("holder", ("next", "x"), pay(2)))])]
        pairs = reached(market, book)
        ends = ("ours", 0, held(1), held(2)), ("ours", 1, held(3), held(4))
        leaf = ("ours", 0, held(), held()), ("ours", 1, held(), held())
        plan = [("theirs",) + ends]
        for place, state in pairs[1:]:
            shape = game_of(market, book, place, state)
            both = shape[0] == "theirs" and shape[2][0] == "ours"
            plan.append(("theirs",) + leaf if both else random_tree(random.Random(1), market, place, shape))
        self.assertIs(is_plan(market, book, plan), True)
        # At the root the others take 0 and we wait, or they wait and we take 2.
        start = [["wait"], ["x"]]
        found = follow(market, book, plan, wealth=(10, 1), play=[(0, [0])])
        self.assertEqual(found, [(0, start, (10, 1), (0, 1), [[], ["x"]], numbers(1))])
        found = follow(market, book, plan, wealth=(10, 1), play=[(0, [1]), (1, [0])])
        self.assertEqual(found, [
            (0, start, (10, 1), (-2, 1), [["wait"], []], numbers(4)),
            (1, [["wait"], []], (92, 1), (20, 1), [[], []], []),
        ])

    def wrong(self, place, market, book, plan, play):
        with self.assertRaises(BadStep) as caught:
            call_kept(self, follow, market, book, plan, wealth=(5, 1), play=play)
        self.assertEqual(caught.exception.place, place)

    def test_wrong_nodes(self):
        book = [("written", CALL)]
        market = two_steps()
        plan = best_plan(market, book)
        for first in (1, 2, 3, 6, 7, -1, -7, 10 ** 20):
            self.wrong(0, market, book, plan, [(first, [])])
            self.wrong(0, market, book, plan, [(first, []), (1, [])])
        for later in (0, 3, 4, 5, 6, 7, -1, -5, -6, 100):
            self.wrong(1, market, book, plan, [(0, []), (later, [])])
        for later in (0, 1, 2, 5, 6, 7, -1, -3, -4):
            self.wrong(2, market, book, plan, [(0, []), (1, []), (later, [])])
        for later in (0, 3, 4, 7, 8):
            self.wrong(3, market, book, plan, [(0, []), (1, []), (3, []), (later, [])])

    def test_wrong_moves(self):
        book = [("written", EARLY)]
        market = two_steps()
        plan = best_plan(market, book)
        for moves in ([], [2], [-1], [1, 0], [1, 1], [0, 0], [0, 1, 0], [2, 2], [10 ** 20]):
            self.wrong(0, market, book, plan, [(0, moves)])
            self.wrong(1, market, book, plan, [(0, [1]), (1, moves)])
            self.wrong(2, market, book, plan, [(0, [1]), (1, [1]), (3, moves)])
        for moves in ([0], [1], [0, 0]):
            self.wrong(1, market, book, plan, [(0, [0]), (1, moves)])
        self.assertEqual(len(follow(market, book, plan, wealth=(5, 1), play=[(0, [0]), (1, []), (4, [])])), 3)

    def test_a_wrong_move_behind_a_right_one(self):
        book = [("written", [("x", choice("holder", choice("holder", pay(1), pay(2)), pay(3)))])]
        market = tree([-1])
        plan = best_plan(market, book)
        for moves in ([0], [0, 2], [0, -1], [0, 0, 0], [1, 0], [1, 2], [2], [2, 0], []):
            self.wrong(0, market, book, plan, [(0, moves)])
        for moves, paid in (([0, 0], 1), ([0, 1], 2), ([1], 3)):
            self.assertEqual(follow(market, book, plan, wealth=(0, 1), play=[(0, moves)])[0][3], (paid, 1))

    def test_the_first_of_two_wrong_steps(self):
        book = [("written", EARLY)]
        market = two_steps()
        plan = best_plan(market, book)
        self.wrong(0, market, book, plan, [(0, []), (9, [])])
        self.wrong(0, market, book, plan, [(1, [1]), (0, [])])
        self.wrong(1, market, book, plan, [(0, [1]), (5, [1]), (3, [])])
        self.wrong(1, market, book, plan, [(0, [1]), (1, [2]), (9, [1])])
        self.wrong(2, market, book, plan, [(0, [1]), (1, [1]), (9, [7])])

    def test_random_plays(self):
        rng = random.Random(5)
        for _ in range(120):
            market, book = random_case(rng, 6)
            plan = random_plan(rng, market, book)
            all_plays = second.plays(market, book, plan)
            for play in rng.sample(all_plays, min(3, len(all_plays))):
                play = play[: rng.randint(1, len(play))]
                wealth = makers.small(rng)
                found = call_kept(self, follow, market, book, plan, wealth=wealth, play=play)
                self.assertEqual(found, second.follow(market, book, plan, wealth, play))
                self.assertEqual(len(list_ids(found)), len(set(list_ids(found))))

    def test_with_the_need_no_play_ends_below_0(self):
        rng = random.Random(6)
        for _ in range(60):
            market, book = random_case(rng, 6, 2)
            plan = random_plan(rng, market, book)
            need = needs(market, book, plan)[0]
            below = []
            for play in second.plays(market, book, plan):
                _, _, wealth, paid, _, _ = follow(market, book, plan, wealth=need, play=play)[-1]
                below.append(Fraction(*wealth) - Fraction(*paid))
            self.assertGreaterEqual(min(below), 0)
            # With less, some play ends below 0: so the need is not too great either.
            self.assertEqual(min(below), 0)


if __name__ == "__main__":
    unittest.main()
