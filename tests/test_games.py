import itertools
import random
import unittest
from fractions import Fraction

from surehedge.contracts import amount_at, has_choices, holds_at
from surehedge.errors import (
    BadState,
    FewerMoves,
    HasChoices,
    HedgeError,
    MoreMoves,
    TooManyChoices,
    TooManyNames,
    TooManyPairs,
)
from surehedge.games import (
    check_state,
    end_of,
    ends_of,
    exchanged,
    first_state,
    game_of,
    payments_of,
    reached,
    reached_from,
)
from tests import makers
from tests.helpers import call_kept, check_new, stock_market, tree, two_asset_market

NOTHING = ("nothing",)
LEAF = ("leaf",)
YES = ("compare", "=", ("time",), ("time",))
NO = ("not", YES)


def pay(n, d=1):
    return ("pay", ("number", (n, d)))


def holder(c, d):
    return ("choice", "holder", c, d)


def writer(c, d):
    return ("choice", "writer", c, d)


def several(*clauses):
    """The clauses one after another, by "both"."""
    result = clauses[-1]
    for clause in clauses[-2::-1]:
        result = ("both", clause, result)
    return result


def end(paid, state):
    return ("end", (paid, 1), state)


CALL = [("call", holder(("pay", ("plus", ("name", "stock"), ("number", (-105, 1)))), ("next", "call")))]


class Told:
    """One way through the clauses of a node, told with the moves; a second reading of point 11."""

    def __init__(self, market, book, place, state, moves):
        self.market = market
        self.book = book
        self.place = place
        self.moves = list(moves)
        self.sides = []
        self.paid = Fraction(0)
        self.behind = [[] for _ in book]
        for index, names in enumerate(state):
            for name in names:
                self.go(index, dict(book[index][1])[name])

    def go(self, index, clause):
        side = self.book[index][0]
        if clause[0] == "pay":
            value = Fraction(*amount_at(self.market, self.place, clause[1]))
            self.paid += value if side == "written" else -value
        if clause[0] == "next" and any(row[0] == self.place for row in self.market[2]):
            self.behind[index].append(clause[1])
        if clause[0] == "both":
            self.go(index, clause[1])
            self.go(index, clause[2])
        if clause[0] == "if":
            self.go(index, clause[2] if holds_at(self.market, self.place, clause[1]) else clause[3])
        if clause[0] == "choice":
            is_ours = (side, clause[1]) in (("written", "writer"), ("held", "holder"))
            self.sides.append(("ours" if is_ours else "theirs", index))
            if not self.moves:
                raise MoreMoves()
            self.go(index, clause[2 + self.moves.pop(0)])


def walked(game, moves):
    """What a game says on the way of these moves: its choices, and the end."""
    sides = []
    for move in moves:
        sides.append((game[0], game[1]))
        game = game[2 + move]
    return sides, game


class States(unittest.TestCase):
    def setUp(self):
        self.book = [("written", [("a", NOTHING), ("b", NOTHING)]), ("held", [("c", NOTHING), ("a", NOTHING)])]

    def test_first_state(self):
        self.assertEqual(first_state([]), [])
        self.assertEqual(check_new(self, first_state, self.book), [["a"], ["c"]])

    def test_good_states(self):
        for state in ([["a"], ["c"]], [[], []], [["b", "b", "a"], ["a"]], [["a"] * 8, ["c", "a"] * 4]):
            self.assertIsNone(call_kept(self, check_state, self.book, state))
        self.assertIsNone(check_state([], []))

    def test_bad_states(self):
        for state in (
            [], [["a"]], [["a"], ["c"], []], [[], [], []],
            [["a"] * 9, []], [[], ["c"] * 9],
            [["c"], []], [[], ["b"]], [["a", "z"], []], [["a"], ["c", ""]], [["a"], ["stock"]],
        ):
            with self.assertRaises(BadState):
                call_kept(self, check_state, self.book, state)
        self.assertRaises(BadState, check_state, [], [[]])


class Games(unittest.TestCase):
    def setUp(self):
        self.market = stock_market()

    def game(self, book, place=0, state=None):
        state = first_state(book) if state is None else state
        return check_new(self, game_of, self.market, book, place, state)

    def alone(self, clause, side="written", place=0):
        return self.game([(side, [("a", clause), ("b", NOTHING)])], place)

    def test_example(self):
        expected = ("theirs", 0, ("end", (15, 1), [[]]), ("end", (0, 1), [[]]))
        self.assertEqual(self.game([("written", CALL)], 1, [["call"]]), expected)
        expected = ("ours", 0, ("end", (5, 1), [[]]), ("end", (0, 1), [["call"]]))
        self.assertEqual(self.game([("held", CALL)], 0, [["call"]]), expected)

    def test_empty_book(self):
        self.assertEqual(self.game([]), ("end", (0, 1), []))

    def test_each_clause(self):
        self.assertEqual(self.alone(NOTHING), end(0, [[]]))
        self.assertEqual(self.alone(pay(3)), end(3, [[]]))
        self.assertEqual(self.alone(pay(3), "held"), end(-3, [[]]))
        self.assertEqual(self.alone(pay(-3), "held"), end(3, [[]]))
        self.assertEqual(self.alone(("pay", ("name", "stock")), place=2), end(90, [[]]))
        self.assertEqual(self.alone(("next", "b")), end(0, [["b"]]))
        self.assertEqual(self.alone(("next", "b"), place=1), end(0, [[]]))
        self.assertEqual(self.alone(("both", ("next", "b"), ("next", "a"))), end(0, [["b", "a"]]))
        self.assertEqual(self.alone(("both", pay(1), pay(2))), end(3, [[]]))
        self.assertEqual(self.alone(("if", YES, pay(1), pay(2))), end(1, [[]]))
        self.assertEqual(self.alone(("if", NO, pay(1), pay(2))), end(2, [[]]))
        self.assertEqual(self.alone(("if", LEAF, pay(1), pay(2))), end(2, [[]]))
        self.assertEqual(self.alone(("if", LEAF, pay(1), pay(2)), place=1), end(1, [[]]))

    def test_whose_choice(self):
        for side, clause, word in (
            ("written", holder, "theirs"), ("written", writer, "ours"),
            ("held", holder, "ours"), ("held", writer, "theirs"),
        ):
            paid = 1 if side == "written" else -1
            expected = (word, 0, end(paid, [[]]), end(2 * paid, [[]]))
            self.assertEqual(self.alone(clause(pay(1), pay(2)), side), expected)

    def test_index_of_the_contract(self):
        plain = ("held", [("a", pay(1))])
        choice = ("held", [("a", holder(pay(10), ("next", "a")))])
        expected = ("ours", 2, end(-12, [[], [], []]), end(-2, [[], [], ["a"]]))
        self.assertEqual(self.game([plain, plain, choice]), expected)

    def test_what_comes_behind_a_choice_stands_behind_both(self):
        clause = several(pay(1), holder(pay(10), ("next", "a")), pay(100), ("next", "b"))
        expected = ("theirs", 0, end(111, [["b"]]), end(101, [["a", "b"]]))
        self.assertEqual(self.alone(clause), expected)
        inner = ("both", ("if", YES, ("both", holder(pay(1), pay(2)), pay(10)), NOTHING), writer(pay(100), pay(200)))
        expected = (
            "theirs", 0,
            ("ours", 0, end(111, [[]]), end(211, [[]])),
            ("ours", 0, end(112, [[]]), end(212, [[]])),
        )
        self.assertEqual(self.alone(inner), expected)

    def test_choices_within_choices(self):
        clause = ("both", holder(writer(pay(1), pay(2)), pay(4)), ("next", "b"))
        expected = ("theirs", 0, ("ours", 0, end(1, [["b"]]), end(2, [["b"]])), end(4, [["b"]]))
        self.assertEqual(self.alone(clause), expected)

    def test_contracts_go_in_order_and_names_in_order(self):
        book = [
            ("written", [("a", several(("next", "b"), ("next", "a"))), ("b", ("next", "b"))]),
            ("held", [("a", holder(("next", "a"), pay(5)))]),
        ]
        expected = ("ours", 1, end(0, [["b", "b", "a"], ["a"]]), end(-5, [["b", "b", "a"], []]))
        self.assertEqual(self.game(book, 0, [["b", "a"], ["a"]]), expected)
        expected = ("ours", 1, end(0, [["b", "a", "b"], ["a"]]), end(-5, [["b", "a", "b"], []]))
        self.assertEqual(self.game(book, 0, [["a", "b"], ["a"]]), expected)

    def test_choice_of_an_earlier_contract_comes_first(self):
        book = [("written", [("a", holder(pay(1), pay(2)))]), ("held", [("a", holder(pay(10), pay(20)))])]
        expected = (
            "theirs", 0,
            ("ours", 1, end(-9, [[], []]), end(-19, [[], []])),
            ("ours", 1, end(-8, [[], []]), end(-18, [[], []])),
        )
        self.assertEqual(self.game(book), expected)

    def test_names_in_force_twice(self):
        book = [("written", [("a", several(pay(1), ("next", "a"), ("next", "b"))), ("b", pay(10))])]
        self.assertEqual(self.game(book, 0, [["a", "b", "a"]]), end(12, [["a", "b", "a", "b"]]))
        self.assertEqual(self.game(book, 0, [[]]), end(0, [[]]))
        choice = [("written", [("a", holder(pay(1), ("next", "a")))])]
        expected = (
            "theirs", 0,
            ("theirs", 0, end(2, [[]]), end(1, [["a"]])),
            ("theirs", 0, end(1, [["a"]]), end(0, [["a", "a"]])),
        )
        self.assertEqual(self.game(choice, 0, [["a", "a"]]), expected)

    def test_a_state_that_is_not_reached(self):
        book = [("written", [("a", NOTHING), ("b", pay(7))])]
        self.assertEqual(self.game(book, 2, [["b"]]), end(7, [[]]))

    def test_against_a_second_reading(self):
        rng = random.Random(3)
        games = 0
        for _ in range(400):
            market = makers.market(rng)
            book = makers.book(rng, market, 3)
            place = rng.randrange(len(market[2]))
            state = [[rng.choice(contract)[0] for _ in range(rng.randint(0, 2))] for _, contract in book]
            try:
                game = check_new(self, game_of, market, book, place, state)
            except TooManyChoices:
                continue
            games += 1
            told = ends_of(game)
            for moves, paid, behind in told:
                way = Told(market, book, place, state, moves)
                sides, last = walked(game, moves)
                self.assertEqual(way.moves, [])
                self.assertEqual(way.sides, sides)
                self.assertEqual((way.paid.numerator, way.paid.denominator), paid)
                self.assertEqual(way.behind, behind)
                self.assertEqual(last, ("end", paid, behind))
            self.assertEqual(sum(Fraction(1, 2 ** len(moves)) for moves, _, _ in told), 1)
        self.assertGreater(games, 200)


class Ends(unittest.TestCase):
    def setUp(self):
        clause = several(holder(pay(1), writer(pay(2), ("next", "a"))), ("if", LEAF, NOTHING, holder(pay(10), pay(20))))
        self.game = game_of(stock_market(), [("written", [("a", clause)])], 0, [["a"]])
        self.ends = [
            ([0, 0], (11, 1), [[]]),
            ([0, 1], (21, 1), [[]]),
            ([1, 0, 0], (12, 1), [[]]),
            ([1, 0, 1], (22, 1), [[]]),
            ([1, 1, 0], (10, 1), [["a"]]),
            ([1, 1, 1], (20, 1), [["a"]]),
        ]

    def test_ends(self):
        self.assertEqual(check_new(self, ends_of, self.game), self.ends)
        self.assertEqual(check_new(self, ends_of, ("end", (2, 3), [["x"], []])), [([], (2, 3), [["x"], []])])

    def test_order(self):
        moves = [each[0] for each in ends_of(self.game)]
        self.assertEqual(moves, sorted(moves))

    def test_end_of(self):
        for moves, paid, state in self.ends:
            self.assertEqual(check_new(self, end_of, self.game, moves), (paid, state))
        self.assertEqual(check_new(self, end_of, ("end", (2, 3), [["x"]]), []), ((2, 3), [["x"]]))

    def test_wrong_numbers_of_moves(self):
        for moves, _, _ in self.ends:
            for less in range(len(moves)):
                self.assertRaises(MoreMoves, end_of, self.game, moves[:less])
            for more in ([0], [1], [0, 0]):
                self.assertRaises(FewerMoves, end_of, self.game, moves + more)
        self.assertRaises(FewerMoves, end_of, ("end", (0, 1), []), [0])


class Pairs(unittest.TestCase):
    def test_plain(self):
        market = stock_market()
        told = check_new(self, reached, market, [("held", CALL)])
        expected = [(0, [["call"]]), (1, [[]]), (1, [["call"]]), (2, [[]]), (2, [["call"]])]
        self.assertEqual(told, expected)
        self.assertEqual(check_new(self, reached, market, []), [(0, []), (1, []), (2, [])])
        self.assertEqual(check_new(self, reached, tree([-1]), [("held", CALL)]), [(0, [["call"]])])

    def test_states_that_come_back(self):
        contract = [
            ("a", holder(("next", "b"), holder(("next", "a"), ("next", "c")))),
            ("b", holder(("next", "c"), ("next", "a"))),
            ("c", ("next", "b")),
        ]
        market = tree([-1, 0, 1, 1, 0, 3])
        told = check_new(self, reached, market, [("written", contract)])
        first = ["b", "a", "c"]
        # Behind b come c and a, behind a come b, a and c, behind c comes b.
        second = ["c", "a", "b"]
        # Behind c comes b, behind a come b, a and c.
        third = ["b", "a", "c"]
        expected = [(0, [["a"]])]
        for place, names in ((1, first), (2, second), (3, second), (4, first), (5, third)):
            expected += [(place, [[name]]) for name in names]
        self.assertEqual(told, expected)

    def test_from_another_pair(self):
        contract = [("a", NOTHING), ("b", holder(("next", "c"), ("next", "b"))), ("c", ("next", "c"))]
        market = tree([-1, 0, 0, 1, 2, 1, 3])
        told = check_new(self, reached_from, market, [("held", contract)], 1, [["b"]])
        expected = [(1, [["b"]])]
        for place in (3, 5, 6):
            expected += [(place, [["c"]]), (place, [["b"]])]
        self.assertEqual(told, expected)
        told = reached_from(market, [("held", contract)], 2, [["c", "c"]])
        self.assertEqual(told, [(2, [["c", "c"]]), (4, [["c", "c"]])])
        self.assertEqual(reached_from(market, [("held", contract)], 6, [["b"]]), [(6, [["b"]])])
        self.assertEqual(reached(market, [("held", contract)]), [(0, [["a"]])] + [(place, [[]]) for place in range(1, 7)])

    def test_the_first_pair_is_new(self):
        state = [["call"]]
        told = reached_from(stock_market(), [("held", CALL)], 0, state)
        told[0][1][0].append("spoilt")
        self.assertEqual(state, [["call"]])

    def test_several_contracts(self):
        book = [("held", CALL), ("written", [("x", ("next", "x"))]), ("written", CALL)]
        told = reached(stock_market(), book)
        states = [[[], ["x"], []], [[], ["x"], ["call"]], [["call"], ["x"], []], [["call"], ["x"], ["call"]]]
        expected = [(0, [["call"], ["x"], ["call"]])]
        for place in (1, 2):
            expected += [(place, state) for state in states]
        self.assertEqual(told, expected)

    def test_against_a_second_reading(self):
        rng = random.Random(4)
        many = 0
        for _ in range(150):
            market = makers.market(rng)
            book = makers.book(rng, market, 2)
            place = rng.randrange(len(market[2]))
            state = first_state(book)
            try:
                told = check_new(self, reached_from, market, book, place, state)
            except HedgeError:
                continue
            many += 1
            expected = [(place, state)]
            for other in range(place + 1, len(market[2])):
                for parent, before in list(expected):
                    if parent == market[2][other][0]:
                        for _, _, after in ends_of(game_of(market, book, parent, before)):
                            if (other, after) not in expected:
                                expected.append((other, after))
            self.assertEqual(told, expected)
        self.assertGreater(many, 80)


class Bounds(unittest.TestCase):
    def setUp(self):
        self.market = stock_market()

    def choices(self, many):
        return several(*[holder(pay(1), NOTHING) for _ in range(many)])

    def game(self, clause, place=0, state=None):
        book = [("written", [("a", clause), ("b", NOTHING)])]
        return call_kept(self, game_of, self.market, book, place, [["a"]] if state is None else state)

    def test_choices(self):
        for place in range(3):
            self.assertEqual(len(ends_of(self.game(self.choices(4), place))), 16)
            self.assertRaises(TooManyChoices, self.game, self.choices(5), place)

    def test_choices_are_counted_on_a_way(self):
        nested = NOTHING
        for many in range(1, 5):
            nested = holder(nested, writer(NOTHING, NOTHING)) if many == 2 else holder(nested, NOTHING)
            self.assertEqual(len(ends_of(self.game(nested))), many + (2 if many > 1 else 1))
        self.assertRaises(TooManyChoices, self.game, holder(nested, NOTHING))
        self.assertRaises(TooManyChoices, self.game, writer(NOTHING, nested))
        clause = holder(self.choices(3), self.choices(3))
        self.assertEqual(len(ends_of(self.game(clause))), 16)
        self.assertRaises(TooManyChoices, self.game, holder(NOTHING, self.choices(4)))
        self.assertRaises(TooManyChoices, self.game, holder(self.choices(4), NOTHING))

    def test_choices_of_all_contracts_together(self):
        two = ("held", [("a", self.choices(2))])
        one = ("written", [("a", self.choices(1))])
        self.assertEqual(len(ends_of(game_of(self.market, [two, two], 0, [["a"], ["a"]]))), 16)
        self.assertRaises(TooManyChoices, game_of, self.market, [two, two, one], 0, [["a"], ["a"], ["a"]])
        self.assertRaises(TooManyChoices, game_of, self.market, [two], 0, [["a"] * 3])
        self.assertEqual(len(ends_of(game_of(self.market, [two], 0, [["a"] * 2]))), 16)

    def test_choices_that_are_not_gone_through_are_not_counted(self):
        clause = several(self.choices(4), ("if", NO, self.choices(4), NOTHING))
        self.assertEqual(len(ends_of(self.game(clause))), 16)

    def names(self, many, name="a"):
        return several(*[("next", name) for _ in range(many)])

    def test_names(self):
        self.assertEqual(self.game(self.names(8)), end(0, [["a"] * 8]))
        self.assertRaises(TooManyNames, self.game, self.names(9))
        mixed = several(self.names(5), self.names(3, "b"))
        self.assertEqual(self.game(mixed), end(0, [["a"] * 5 + ["b"] * 3]))
        self.assertRaises(TooManyNames, self.game, ("both", mixed, ("next", "b")))
        self.assertEqual(self.game(self.names(2), 0, [["a"] * 4]), end(0, [["a"] * 8]))
        self.assertRaises(TooManyNames, self.game, self.names(2), 0, [["a"] * 5])

    def test_names_at_a_leaf(self):
        self.assertEqual(self.game(self.names(11), 1), end(0, [[]]))

    def test_names_of_each_contract_alone(self):
        book = [("held", [("a", self.names(8))]), ("written", [("a", self.names(8))])]
        self.assertEqual(game_of(self.market, book, 0, [["a"], ["a"]]), end(0, [["a"] * 8, ["a"] * 8]))

    def test_names_are_counted_on_a_way(self):
        clause = several(self.names(4), holder(self.names(4), NOTHING))
        self.assertEqual(len(ends_of(self.game(clause))), 2)
        clause = several(self.names(4), holder(NOTHING, self.names(5)))
        self.assertRaises(TooManyNames, self.game, clause)
        clause = several(holder(self.names(4), NOTHING), self.names(5))
        self.assertRaises(TooManyNames, self.game, clause)

    def test_which_is_due_first(self):
        self.assertRaises(TooManyNames, self.game, several(self.names(9), self.choices(5)))
        self.assertRaises(TooManyChoices, self.game, several(self.choices(5), self.names(9)))
        # The first clause, with all that comes behind it, is worked out ahead of the second one.
        self.assertRaises(TooManyNames, self.game, several(self.choices(4), self.names(9), self.choices(1)))
        self.assertRaises(TooManyChoices, self.game, holder(self.choices(4), self.names(9)))
        self.assertRaises(TooManyNames, self.game, holder(self.names(9), self.choices(4)))
        clause = ("both", holder(NOTHING, self.names(9)), self.choices(4))
        self.assertRaises(TooManyChoices, self.game, clause)
        clause = ("both", holder(NOTHING, self.choices(4)), self.names(9))
        self.assertRaises(TooManyNames, self.game, clause)

    def test_pairs(self):
        contract = [("start", several(*[holder(("next", name), NOTHING) for name in "abc"]))]
        contract += [(name, ("next", name)) for name in "abc"]
        book = [("written", contract)]
        # Eight states at each node but the root: 1 + 8 * 24 = 193, 1 + 8 * 25 = 201.
        row = [place - 1 for place in range(26)]
        self.assertEqual(len(reached(tree(row[:25]), book)), 193)
        with self.assertRaises(TooManyPairs):
            call_kept(self, reached, tree(row), book)

    def test_200_and_201_pairs(self):
        # 8 + 12 * 16, 4 + 14 * 14, 40 + 16 * 10 and 4 + 7 * 28 are 200.
        for nodes_ahead, ends, nodes_behind, error in (
            (8, 12, 16, None), (9, 12, 16, TooManyPairs), (4, 14, 14, None), (5, 14, 14, TooManyPairs),
            (40, 16, 10, None), (41, 16, 10, TooManyPairs), (4, 7, 28, None), (5, 7, 28, TooManyPairs),
        ):
            market, book = self.sized(nodes_ahead, ends, nodes_behind)
            if error is None:
                self.assertEqual(len(reached(market, book)), 200)
            else:
                self.assertRaises(error, reached, market, book)

    def sized(self, nodes_ahead, ends, nodes_behind):
        """Nodes in a row; from the last one of those ahead on there are as many states as ends."""
        states = []
        for place in range(ends):
            states.append(several(*[("next", "even" if place >> bit & 1 else "odd") for bit in range(4)]))
        while len(states) > 1:
            pairs = [states[place:place + 2] for place in range(0, len(states), 2)]
            states = [holder(*pair) if len(pair) == 2 else pair[0] for pair in pairs]
        when = ("compare", "=", ("time",), ("number", (nodes_ahead - 1, 1)))
        contract = [
            ("start", ("if", when, states[0], ("next", "start"))),
            ("even", ("next", "even")),
            ("odd", ("next", "odd")),
        ]
        return tree([place - 1 for place in range(nodes_ahead + nodes_behind)]), [("held", contract)]

    def test_pairs_from_another_pair(self):
        market, book = self.sized(8, 12, 16)
        told = reached(market, book)
        self.assertEqual(reached_from(market, book, 2, [["start"]]), told[2:])
        self.assertEqual(len(reached_from(market, book, 8, told[8][1])), 16)
        market, book = self.sized(9, 12, 16)
        self.assertEqual(len(reached_from(market, book, 1, [["start"]])), 200)
        self.assertRaises(TooManyPairs, reached_from, market, book, 0, [["start"]])

    def test_pairs_that_are_added_count_at_once(self):
        # The root has six children with four states each, and each of these adds six states at six leaves:
        # 1 + 6 * 4 + 5 * 36 = 205. The bound is passed ahead of the leaves, whose choices are too many.
        parents = [-1] + [0] * 6 + [1 + place // 6 for place in range(36)]
        four = several(holder(("next", "b"), NOTHING), holder(("next", "c"), NOTHING))
        contract = [
            ("a", four),
            ("b", ("both", ("next", "d"), holder(("next", "d"), NOTHING))),
            ("c", ("next", "e")),
            ("d", self.choices(5)),
            ("e", NOTHING),
        ]
        book = [("written", contract)]
        self.assertRaises(TooManyPairs, reached, tree(parents), book)
        # With fewer leaves there is room, and their choices are due.
        self.assertRaises(TooManyChoices, reached, tree(parents[:12]), book)

    def test_game_of_a_pair_ahead_of_its_pairs(self):
        # At the last inner node the game has too many names, and would add too many pairs.
        market, book = self.sized(9, 12, 16)
        late = ("compare", "=", ("time",), ("number", (23, 1)))
        contract = book[0][1]
        broken = [contract[0], contract[1], ("odd", ("if", late, self.names(9, "odd"), ("next", "odd")))]
        self.assertRaises(TooManyNames, reached, market, [("held", broken)])
        later = ("compare", "=", ("time",), ("number", (24, 1)))
        broken = [contract[0], contract[1], ("odd", ("if", later, self.choices(5), ("next", "odd")))]
        self.assertRaises(TooManyPairs, reached, market, [("held", broken)])

    def test_pairs_are_gone_through_in_order(self):
        market = tree([-1, 0, 0, 1, 2])
        at_root = ("compare", "=", ("time",), ("number", (0, 1)))
        at_first_child = ("compare", "=", ("name", "stock"), ("number", (101, 1)))
        for there, elsewhere, error in (
            (self.choices(5), self.names(9), TooManyChoices), (self.names(9), self.choices(5), TooManyNames),
        ):
            clause = ("if", at_root, ("next", "a"), ("if", at_first_child, there, elsewhere))
            self.assertRaises(error, reached, market, [("held", [("a", clause)])])

    def test_leaves_are_gone_through_too(self):
        contract = [("a", ("if", LEAF, self.choices(5), ("next", "a")))]
        self.assertRaises(TooManyChoices, reached, self.market, [("held", contract)])


class Exchanged(unittest.TestCase):
    def test_exchanged(self):
        book = [("written", CALL), ("held", CALL)]
        self.assertEqual(call_kept(self, exchanged, book), [("held", CALL), ("written", CALL)])
        self.assertEqual(exchanged([]), [])
        self.assertEqual(exchanged(exchanged(book)), book)

    def test_it_is_new(self):
        book = [("written", list(CALL))]
        told = exchanged(book)
        told[0][1].append(("x", NOTHING))
        told.append(None)
        self.assertEqual(book, [("written", CALL)])

    def mirrored(self, game):
        if game[0] == "end":
            return ("end", (-game[1][0], game[1][1]), game[2])
        word = "theirs" if game[0] == "ours" else "ours"
        return (word, game[1], self.mirrored(game[2]), self.mirrored(game[3]))

    def test_games_of_exchanged_books(self):
        rng = random.Random(5)
        many = 0
        for _ in range(150):
            market = makers.market(rng)
            book = makers.book(rng, market, 3)
            place = rng.randrange(len(market[2]))
            try:
                game = game_of(market, book, place, first_state(book))
            except TooManyChoices:
                continue
            many += 1
            self.assertEqual(game_of(market, exchanged(book), place, first_state(book)), self.mirrored(game))
        self.assertGreater(many, 80)

    def test_books_alone_and_together(self):
        rng = random.Random(6)
        many = 0
        for _ in range(150):
            market = makers.market(rng)
            book = makers.book(rng, market, 3)
            place = rng.randrange(len(market[2]))
            try:
                game = game_of(market, book, place, first_state(book))
            except TooManyChoices:
                continue
            many += 1
            alone = [ends_of(game_of(market, [each], place, first_state([each]))) for each in book]
            expected = []
            for ends in itertools.product(*alone):
                moves = [move for each in ends for move in each[0]]
                paid = sum(Fraction(*each[1]) for each in ends)
                expected.append((moves, (paid.numerator, paid.denominator), [each[2][0] for each in ends]))
            self.assertEqual(ends_of(game), expected)
        self.assertGreater(many, 80)


class Payments(unittest.TestCase):
    def test_along_several_ways(self):
        market = two_asset_market()
        when = ("compare", ">", ("name", "stock"), ("number", (105, 1)))
        contract = [
            ("a", several(pay(1), ("if", LEAF, NOTHING, ("both", ("next", "a"), ("next", "b"))))),
            ("b", ("if", when, several(("pay", ("name", "stock")), ("next", "c")), ("pay", ("payout", "stock")))),
            ("c", pay(1000)),
        ]
        # Node 1: 1 + 120. Node 2: 1 - 1. Nodes 3 and 4: a pays 1, its b the stock, and c 1000.
        told = check_new(self, payments_of, market, contract)
        self.assertEqual(told, [(1, 1), (121, 1), (0, 1), (1131, 1), (1111, 1)])

    def test_nodes_that_are_not_in_the_order_of_the_ways(self):
        market = tree([-1, 0, 1, 0, 1, 3, 2])
        contract = [("a", several(("pay", ("plus", ("time",), ("name", "stock"))), ("next", "a")))]
        self.assertEqual(payments_of(market, contract), [(n, 1) for n in (100, 102, 104, 104, 106, 107, 109)])

    def test_each_node_counts_once_in_a_long_market(self):
        market = tree([place - 1 for place in range(60)])
        contract = [("a", several(pay(1, 3), ("next", "a")))]
        self.assertEqual(payments_of(market, contract), [(1, 3)] * 60)

    def test_has_choices(self):
        for clause in (holder(NOTHING, NOTHING), writer(pay(1), NOTHING), ("if", NO, holder(NOTHING, NOTHING), NOTHING)):
            self.assertRaises(HasChoices, payments_of, stock_market(), [("a", clause)])
            self.assertRaises(HasChoices, payments_of, stock_market(), [("a", NOTHING), ("b", clause)])

    def test_too_many_names(self):
        doubling = ("both", ("next", "a"), ("next", "a"))
        row = [place - 1 for place in range(6)]
        self.assertEqual(payments_of(tree(row[:4]), [("a", ("both", pay(1), doubling))]), [(n, 1) for n in (1, 2, 4, 8)])
        self.assertRaises(TooManyNames, payments_of, tree(row[:5]), [("a", ("both", pay(1), doubling))])
        both = ("both", doubling, ("if", NO, holder(NOTHING, NOTHING), NOTHING))
        self.assertRaises(HasChoices, payments_of, tree(row), [("a", both)])

    def test_against_the_game(self):
        rng = random.Random(7)
        many = 0
        for _ in range(200):
            market = makers.market(rng)
            contract = makers.contract(rng, market, 3)
            if has_choices(contract):
                self.assertRaises(HasChoices, payments_of, market, contract)
                continue
            try:
                told = payments_of(market, contract)
            except TooManyNames:
                continue
            many += 1
            pairs = reached(market, [("held", contract)])
            self.assertEqual([place for place, _ in pairs], list(range(len(market[2]))))
            for place, state in pairs:
                paid = game_of(market, [("held", contract)], place, state)[1]
                self.assertEqual(told[place], (-paid[0], paid[1]))
        self.assertGreater(many, 50)


if __name__ == "__main__":
    unittest.main()
