import random
import unittest
from fractions import Fraction

from surehedge.capital import capital, capital_at, capitals, game_capital, raised
from surehedge.errors import HedgeError, NotFree
from surehedge.games import ends_of, exchanged, game_of, reached
from surehedge.steps import cost_of
from tests import makers, second
from tests.helpers import call_kept, check_new, node, stock_market, tree

BIG = 10 ** 30
GAIN = ("max", ("plus", ("name", "stock"), ("number", (-105, 1))), ("number", (0, 1)))
CALL = [("call", ("if", ("leaf",), ("pay", GAIN), ("next", "call")))]
# The holder takes the gain over 100 at once, or waits for a later node.
EARLY = [("wait", ("choice", "holder", ("pay", ("plus", ("name", "stock"), ("number", (-100, 1)))), ("next", "wait")))]


def end(paid, *names):
    return ("end", (paid, 1), [list(names)])


def fixed(n, d=1):
    """A contract that pays so much at the root alone."""
    return [("a", ("pay", ("number", (n, d))))]


def pay(n):
    return ("pay", ("number", (n, 1)))


def choice(who, first, second_one):
    return ("choice", who, first, second_one)


def either(name, who):
    """A contract that pays 1 where the stock is above 100, or where it is below it, as who chooses."""
    above = ("compare", ">", ("name", "stock"), ("number", (100, 1)))
    return [
        (name, choice(who, ("next", "high"), ("next", "low"))),
        ("high", ("if", above, pay(1), ("nothing",))),
        ("low", ("if", above, ("nothing",), pay(1))),
    ]


def always(n):
    """A contract that pays so much at each node."""
    return [("a", ("both", ("pay", ("number", (n, 1))), ("next", "a")))]


def two_steps(growth=(1, 1)):
    """100 goes to 120 or 90; 120 to 144 or 108, 90 to 108 or 81."""
    nodes = [node(-1, [100]), node(0, [120], growth=growth), node(0, [90], growth=growth)]
    return (["stock"], [], nodes + [node(1, [144]), node(1, [108]), node(2, [108]), node(2, [81])])


def unfree_market():
    """Node 1 is the first one that is not free, node 2 another one."""
    nodes = [node(-1, [100]), node(0, [120]), node(0, [90]), node(1, [130]), node(2, [80])]
    return (["stock"], [], nodes)


def random_case(rng, most_nodes=8, most_contracts=3, depth=3):
    """A free market and a book for which reached raises nothing."""
    while True:
        market = makers.free_market(rng, most_nodes)
        book = makers.book(rng, market, most_contracts, depth)
        try:
            reached(market, book)
        except HedgeError:
            continue
        return market, book


class GameCapital(unittest.TestCase):
    def told(self, expected, game, rests):
        for each in (rests, rests[::-1], rests[1:] + rests[:1]):
            self.assertEqual(call_kept(self, game_capital, game, each), expected)

    def test_the_example(self):
        game = ("theirs", 0, ("end", (1, 1), [["a"]]), ("end", (0, 1), [["b"]]))
        self.told((7, 2), game, [([["a"]], (2, 1)), ([["b"]], (7, 2))])

    def test_ends(self):
        self.told((5, 1), end(3, "a"), [([["a"]], (2, 1))])
        self.told((-7, 2), end(-4, "a"), [([["a"]], (1, 2))])
        self.told((0, 1), ("end", (1, 3), []), [([], (-1, 3))])
        self.told((BIG + 1, 1), end(1, "a"), [([["a"]], (BIG, 1))])

    def test_states_are_told_apart(self):
        rests = [
            ([["a"], []], (1, 1)), ([[], ["a"]], (2, 1)), ([["a", "a"], []], (3, 1)), ([["a"], ["a"]], (4, 1)),
            ([["b"], ["a"]], (5, 1)), ([["a", "b"], []], (6, 1)), ([["b", "a"], []], (7, 1)), ([["ab"], []], (8, 1)),
            ([[], []], (9, 1)),
        ]
        for state, rest in rests:
            self.told(rest, ("end", (0, 1), state), rests)

    def test_choices(self):
        rests = [([["a"]], (2, 1)), ([["b"]], (3, 1)), ([["c"]], (-1, 1))]
        for first, second_one, least, most in ((3, 1, 4, 5), (1, 3, 3, 6), (1, 0, 3, 3), (-5, -5, -3, -2)):
            games = (end(first, "a"), end(second_one, "b"))
            self.told((least, 1), ("ours", 0) + games, rests)
            self.told((most, 1), ("theirs", 3) + games, rests)

    def test_nested(self):
        rests = [([["a"]], (0, 1)), ([["b"]], (10, 1))]
        low = ("ours", 0, end(1, "a"), end(5, "b"))
        high = ("theirs", 1, end(3, "a"), end(-5, "b"))
        self.told((1, 1), ("ours", 0, low, high), rests)
        self.told((5, 1), ("theirs", 0, low, high), rests)
        self.told((5, 1), ("theirs", 0, high, low), rests)
        self.told((4, 1), ("ours", 0, ("theirs", 0, low, high), end(4, "a")), rests)
        self.told((5, 1), ("ours", 0, end(6, "a"), ("theirs", 0, low, high)), rests)
        self.told((5, 1), ("theirs", 0, ("ours", 0, low, high), ("theirs", 0, low, high)), rests)
        deep = ("ours", 2, ("theirs", 3, end(1, "a"), end(2, "a")), end(9, "a"))
        deep = ("ours", 0, ("theirs", 1, deep, end(0, "a")), end(3, "a"))
        self.told((2, 1), deep, rests)


class Capitals(unittest.TestCase):
    def told(self, expected, market, book):
        """Tests the capitals, told by nodes and names in force; and what the other functions say of them."""
        found = check_new(self, capitals, market, book)
        pairs = reached(market, book)
        keys = [(place, ".".join(",".join(names) for names in state)) for place, state in pairs]
        wanted = [(key, value if isinstance(value, tuple) else (value, 1)) for key, value in expected]
        self.assertEqual(list(zip(keys, found)), wanted)
        self.agree(market, book, pairs, found)

    def agree(self, market, book, pairs, found):
        self.assertEqual(call_kept(self, capital, market, book), found[0])
        for (place, state), each in zip(pairs, found):
            self.assertEqual(call_kept(self, capital_at, market, book, node=place, state=state), each)

    def test_a_book_without_contracts(self):
        self.told([((0, ""), 0), ((1, ""), 0), ((2, ""), 0)], stock_market(), [])
        self.told([((0, ""), 0)], tree([-1]), [])

    def test_a_call(self):
        self.told([((0, "call"), 5), ((1, "call"), 15), ((2, "call"), 0)], stock_market(), [("written", CALL)])
        self.told([((0, "call"), -5), ((1, "call"), -15), ((2, "call"), 0)], stock_market(), [("held", CALL)])

    def test_a_call_that_cannot_be_copied(self):
        market = stock_market()
        market[2].append(node(0, [110]))
        self.told([((0, "call"), 5), ((1, "call"), 15), ((2, "call"), 0), ((3, "call"), 5)], market, [("written", CALL)])
        # Held, it brings least when nothing but 110 or 90 is to be feared: half of 5.
        self.told(
            [((0, "call"), (-5, 2)), ((1, "call"), -15), ((2, "call"), 0), ((3, "call"), -5)], market, [("held", CALL)]
        )

    def test_payments_at_the_root_at_inner_nodes_and_at_leaves(self):
        states = "aaaaaaa"
        self.told(list(zip(enumerate(states), (3, 2, 2, 1, 1, 1, 1))), two_steps(), [("written", always(1))])
        self.told(list(zip(enumerate(states), (-9, -6, -6, -3, -3, -3, -3))), two_steps(), [("held", always(3))])
        nodes = [node(-1, [100], growth=(3, 4)), node(0, [90], growth=(1, 2)), node(0, [60], growth=(1, 2))]
        halved = (["stock"], [], nodes + [node(1, [50]), node(1, [40]), node(2, [35]), node(2, [25])])
        # At each node 1 is due; what is due behind it is worth twice, or four thirds of it, there.
        self.told(list(zip(enumerate(states), (5, 3, 3, 1, 1, 1, 1))), halved, [("written", always(1))])

    def test_payments_at_some_nodes_only(self):
        root = [("written", fixed(7))]
        self.told([((0, "a"), 7), ((1, ""), 0), ((2, ""), 0)], stock_market(), root)
        inner = [("a", ("if", ("compare", "=", ("time",), ("number", (1, 1))), pay(4), ("next", "a")))]
        self.told(
            [((0, "a"), 4), ((1, "a"), 4), ((2, "a"), 4), ((3, ""), 0), ((4, ""), 0), ((5, ""), 0), ((6, ""), 0)],
            two_steps(), [("written", inner)],
        )

    def test_choices_of_the_others(self):
        names = [(0, "wait"), (1, ""), (1, "wait"), (2, ""), (2, "wait")]
        # At the root 0 is paid at once; the states behind are that in which nothing is in force, and that of waiting.
        self.told(list(zip(names, ((20, 3), 0, 20, 0, 0))), stock_market(), [("written", EARLY)])

    def test_choices_of_ours(self):
        names = [(0, "wait"), (1, ""), (1, "wait"), (2, ""), (2, "wait")]
        self.told(list(zip(names, ((-20, 3), 0, -20, 0, 0))), stock_market(), [("held", EARLY)])

    def test_several_contracts(self):
        both = [("written", CALL), ("held", CALL)]
        self.told([((0, "call.call"), 0), ((1, "call.call"), 0), ((2, "call.call"), 0)], stock_market(), both)
        many = [("written", CALL), ("written", always(1)), ("held", fixed(3)), ("written", CALL)]
        self.told(
            [((0, "call.a.a.call"), 9), ((1, "call.a..call"), 31), ((2, "call.a..call"), 1)], stock_market(), many
        )

    def test_who_stands_first_chooses_first(self):
        # Each one chooses the child in which 1 is paid. Who chooses last chooses the same child, or the other one.
        market = stock_market()
        market[2][0][2][0] = "none"
        for who, first, last in (("writer", 2, 1), ("holder", 1, 2)):
            other = "holder" if who == "writer" else "writer"
            book = [("written", either("first", who)), ("written", either("second", other))]
            self.assertEqual(capital(market, book), (first, 1))
            self.assertEqual(capital(market, book[::-1]), (last, 1))
            self.assertEqual(capital(stock_market(), book), (1, 1))

    def test_choices_on_both_sides(self):
        # The writer chooses between two games; in the first one the holder takes 5 or 3, in the second 4.
        contract = [("g", choice("writer", choice("holder", pay(5), pay(3)), pay(4)))]
        self.assertEqual(capital(tree([-1]), [("written", contract)]), (4, 1))
        self.assertEqual(capital(tree([-1]), [("held", contract)]), (-4, 1))
        for last, expected in ((4, 4), (2, 3), (3, 3)):
            contract = [("g", choice("holder", choice("writer", pay(5), pay(3)), pay(last)))]
            self.assertEqual(capital(tree([-1]), [("written", contract)]), (expected, 1))

    def test_rules(self):
        for rule, written, held in (("any", 5, -5), ("long", 5, 0), ("short", 15, -5), ("none", 15, 0)):
            market = stock_market()
            market[2][0][2][0] = rule
            self.assertEqual(capital(market, [("written", CALL)]), (written, 1))
            self.assertEqual(capital(market, [("held", CALL)]), (held, 1))

    def test_random_books(self):
        rng = random.Random(1)
        choices = 0
        for _ in range(250):
            market, book = random_case(rng)
            pairs = reached(market, book)
            found = call_kept(self, capitals, market, book)
            self.assertEqual(found, [second.number_of(second.capital(market, book, *pair)) for pair in pairs])
            self.agree(market, book, pairs, found)
            choices += sum(game_of(market, book, *pair)[0] != "end" for pair in pairs)
        self.assertGreater(choices, 100)

    def test_words_of_point_41(self):
        rng = random.Random(2)
        for _ in range(60):
            market, book = random_case(rng)
            pairs = reached(market, book)
            known = {repr(pair): each for pair, each in zip(pairs, capitals(market, book))}
            for place, state in pairs:
                game = game_of(market, book, place, state)
                rests = []
                for _, _, later in ends_of(game):
                    below = [known[repr((child, later))] for child in second.children(market, place)]
                    rests.append((later, cost_of(market, place, below)[0] if below else (0, 1)))
                self.assertEqual(known[repr((place, state))], game_capital(game, rests))


class CapitalAt(unittest.TestCase):
    def test_pairs_that_are_not_reached(self):
        market = two_steps()
        book = [("written", CALL)]
        for place, state, expected in (
            (0, [[]], (0, 1)), (1, [[]], (0, 1)), (3, [[]], (0, 1)), (3, [["call"] * 8], (312, 1)),
            (1, [["call", "call"]], (30, 1)), (2, [["call"] * 3], (3, 1)), (0, [["call"] * 2], (34, 3)),
            (6, [["call"]], (0, 1)),
        ):
            self.assertEqual(call_kept(self, capital_at, market, book, node=place, state=state), expected)

    def test_names_that_are_never_in_force_otherwise(self):
        contract = CALL + [("due", ("pay", ("number", (5, 1)))), ("later", ("next", "due"))]
        for place, state, expected in (
            (0, [["due"]], 5), (0, [["later"]], 5), (3, [["later"]], 0), (3, [["due", "later", "due"]], 10),
        ):
            self.assertEqual(capital_at(two_steps(), [("written", contract)], node=place, state=state), (expected, 1))
            self.assertEqual(capital_at(two_steps(), [("held", contract)], node=place, state=state), (-expected, 1))

    def test_random_pairs(self):
        rng = random.Random(3)
        done = 0
        while done < 120:
            market, book = random_case(rng)
            state = [[rng.choice(contract)[0] for _ in range(rng.randint(0, 2))] for _, contract in book]
            place = rng.randrange(len(market[2]))
            try:
                found = call_kept(self, capital_at, market, book, node=place, state=state)
            except HedgeError as error:
                self.assertNotIsInstance(error, NotFree)
                continue
            self.assertEqual(found, second.number_of(second.capital(market, book, place, state)))
            done += 1


class Unfree(unittest.TestCase):
    def refused(self, place, function, *args, **named):
        with self.assertRaises(NotFree) as caught:
            call_kept(self, function, *args, **named)
        self.assertEqual(caught.exception.node, place)

    def test_the_first_node_that_is_not_free(self):
        for place in (1, 2):
            market = unfree_market()
            if place == 2:
                market[2].append(node(1, [110]))
            for book in ([], [("written", CALL)], [("held", EARLY), ("written", CALL)]):
                self.refused(place, capitals, market, book)
                self.refused(place, capital, market, book)
                for other in range(len(market[2])):
                    state = [["call"] if contract == CALL else [] for _, contract in book]
                    self.refused(place, capital_at, market, book, node=other, state=state)
                self.refused(place, raised, market, book, side="written", contract=CALL)

    def test_not_free_comes_ahead_of_all(self):
        # The holder chooses five times at once: the game of the root raises TooManyChoices.
        clause = ("nothing",)
        for _ in range(5):
            clause = choice("holder", clause, clause)
        book = [("written", [("a", clause)])]
        self.refused(1, capital, unfree_market(), book)
        self.refused(1, capitals, unfree_market(), book)
        self.refused(1, capital_at, unfree_market(), book, node=0, state=[["a"]])
        self.refused(1, raised, unfree_market(), [], side="written", contract=book[0][1])


class Raised(unittest.TestCase):
    def test_by_hand(self):
        market = stock_market()
        for book, written, held in (
            ([], 5, -5), ([("written", CALL)], 5, -5), ([("held", CALL)], 5, -5), ([("written", fixed(3))] * 3, 5, -5),
        ):
            self.assertEqual(call_kept(self, raised, market, book, side="written", contract=CALL), (written, 1))
            self.assertEqual(call_kept(self, raised, market, book, side="held", contract=CALL), (held, 1))

    def test_in_a_market_that_is_not_complete(self):
        market = stock_market()
        market[2].append(node(0, [110]))
        self.assertEqual(raised(market, [], side="written", contract=CALL), (5, 1))
        self.assertEqual(raised(market, [], side="held", contract=CALL), (-5, 2))
        # What is written takes away all of the risk of what is held already.
        self.assertEqual(raised(market, [("held", CALL)], side="written", contract=CALL), (5, 2))

    def test_the_contract_stands_behind_the_others(self):
        # Who stands last chooses knowing what the other one chose.
        market = stock_market()
        market[2][0][2][0] = "none"
        ours = either("first", "writer")
        theirs = either("second", "holder")
        self.assertEqual(raised(market, [("written", ours)], side="written", contract=theirs), (1, 1))
        self.assertEqual(raised(market, [("written", theirs)], side="written", contract=ours), (0, 1))

    def test_random_contracts(self):
        rng = random.Random(4)
        for _ in range(120):
            market, book = random_case(rng, most_contracts=3)
            if book:
                side, contract = book.pop()
                found = call_kept(self, raised, market, book, side=side, contract=contract)
                more = capital(market, book + [(side, contract)])
                self.assertEqual(Fraction(*found), Fraction(*more) - Fraction(*capital(market, book)))

    def test_both_sides_together_are_at_least_0(self):
        rng = random.Random(5)
        done = 0
        above = 0
        while done < 80:
            market, book = random_case(rng, most_contracts=3, depth=4)
            if not book or any("choice" in repr(contract) for _, contract in book[:-1]):
                continue
            contract = book.pop()[1]
            written = raised(market, book, side="written", contract=contract)
            held = raised(market, book, side="held", contract=contract)
            self.assertGreaterEqual(Fraction(*written) + Fraction(*held), 0)
            above += Fraction(*written) + Fraction(*held) > 0
            done += 1
        self.assertGreater(above, 3)

    def test_exchanged_books(self):
        market = stock_market()
        book = [("written", CALL), ("held", EARLY)]
        expected = second.capital(market, exchanged(book), 0, [["call"], ["wait"]])
        self.assertEqual(capital(market, exchanged(book)), second.number_of(expected))


if __name__ == "__main__":
    unittest.main()
