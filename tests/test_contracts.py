import copy
import random
import unittest
from fractions import Fraction

from surehedge.contracts import amount_at, check_book, check_contract, has_choices, holds_at
from surehedge.errors import (
    BadAmount,
    BadClause,
    BadCondition,
    BadName,
    BadNumber,
    BadSide,
    BadSign,
    BadSize,
    TooDeep,
    UnknownName,
)
from tests import makers
from tests.helpers import call_kept, node, two_asset_market

ONE = ("number", (1, 1))
TWO = ("number", (2, 1))
LEAF = ("leaf",)
NOTHING = ("nothing",)
LONG = ("number", (10 ** 12 - 1, 1))


class Amounts(unittest.TestCase):
    def setUp(self):
        self.market = two_asset_market()

    def at(self, place, amount):
        return call_kept(self, amount_at, self.market, place, amount)

    def test_number(self):
        for place in range(5):
            self.assertEqual(self.at(place, ("number", (-7, 2))), (-7, 2))

    def test_name(self):
        told = [self.at(place, ("name", "stock")) for place in range(5)]
        self.assertEqual(told, [(100, 1), (120, 1), (-90, 7), (130, 1), (110, 1)])
        told = [self.at(place, ("name", "bond")) for place in range(5)]
        self.assertEqual(told, [(50, 1), (49, 1), (51, 1), (50, 1), (50, 1)])
        told = [self.at(place, ("name", "rain")) for place in range(5)]
        self.assertEqual(told, [(3, 1), (1, 3), (-4, 1), (0, 1), (9, 1)])

    def test_second_seen_quantity(self):
        market = (["a"], ["b", "c"], [node(-1, [1], values=[2, 3])])
        self.assertEqual([amount_at(market, 0, ("name", name)) for name in "abc"], [(1, 1), (2, 1), (3, 1)])

    def test_payout(self):
        told = [self.at(place, ("payout", "stock")) for place in range(5)]
        self.assertEqual(told, [(0, 1), (2, 1), (-1, 1), (0, 1), (0, 1)])
        told = [self.at(place, ("payout", "bond")) for place in range(5)]
        self.assertEqual(told, [(0, 1), (1, 2), (0, 1), (5, 1), (0, 1)])

    def test_time(self):
        told = [self.at(place, ("time",)) for place in range(5)]
        self.assertEqual(told, [(0, 1), (1, 1), (1, 1), (2, 1), (2, 1)])

    def test_plus_and_times(self):
        self.assertEqual(self.at(1, ("plus", ("name", "stock"), ("number", (-1, 2)))), (239, 2))
        self.assertEqual(self.at(1, ("times", (-3, 2), ("name", "bond"))), (-147, 2))
        self.assertEqual(self.at(1, ("times", (0, 1), ("name", "bond"))), (0, 1))

    def test_max_and_min(self):
        for a, b, great, small in (
            ((1, 2), (1, 3), (1, 2), (1, 3)),
            ((1, 3), (1, 2), (1, 2), (1, 3)),
            ((-5, 1), (2, 1), (2, 1), (-5, 1)),
            ((4, 1), (4, 1), (4, 1), (4, 1)),
        ):
            self.assertEqual(self.at(0, ("max", ("number", a), ("number", b))), great)
            self.assertEqual(self.at(0, ("min", ("number", a), ("number", b))), small)

    def test_deep_and_long(self):
        amount = LONG
        expected = 10 ** 12 - 1
        for _ in range(9):
            amount = ("times", (-(10 ** 12) + 1, 1), amount)
            expected *= -(10 ** 12) + 1
        self.assertEqual(self.at(3, amount), (expected, 1))
        small = ("times", (1, 10 ** 12 - 1), amount)
        self.assertEqual(self.at(3, small), (expected // (10 ** 12 - 1), 1))
        both = ("max", ("min", amount, small), ("plus", amount, ("times", (-1, 1), amount)))
        self.assertEqual(self.at(3, both), (0, 1))

    def test_against_fractions(self):
        rng = random.Random(1)
        for _ in range(300):
            market = makers.market(rng)
            amount = makers.amount(rng, market, 5)
            place = rng.randrange(len(market[2]))
            expected = self.reckoned(market, place, amount)
            self.assertEqual(amount_at(market, place, amount), (expected.numerator, expected.denominator))

    def reckoned(self, market, place, amount):
        assets, seen, nodes = market
        word = amount[0]
        if word == "number":
            return Fraction(*amount[1])
        if word == "name":
            known = dict(zip(assets + seen, nodes[place][3] + nodes[place][5]))
            return Fraction(*known[amount[1]])
        if word == "payout":
            return Fraction(*dict(zip(assets, nodes[place][4]))[amount[1]])
        if word == "time":
            steps = 0
            while place:
                place = nodes[place][0]
                steps += 1
            return Fraction(steps)
        if word == "times":
            return Fraction(*amount[1]) * self.reckoned(market, place, amount[2])
        a = self.reckoned(market, place, amount[1])
        b = self.reckoned(market, place, amount[2])
        return {"plus": a + b, "max": max(a, b), "min": min(a, b)}[word]


class Conditions(unittest.TestCase):
    def setUp(self):
        self.market = two_asset_market()

    def at(self, place, condition):
        return call_kept(self, holds_at, self.market, place, condition)

    def test_leaf(self):
        told = [self.at(place, LEAF) for place in range(5)]
        self.assertEqual(told, [False, False, True, True, True])
        told = [self.at(place, ("not", LEAF)) for place in range(5)]
        self.assertEqual(told, [True, True, False, False, False])

    def test_signs(self):
        big = ("number", (10 ** 12 - 1, 10 ** 12 - 2))
        less = ("number", (10 ** 12 - 2, 10 ** 12 - 3))
        for a, b, right in (
            (ONE, TWO, ["!=", "<", "<="]),
            (TWO, ONE, ["!=", ">", ">="]),
            (ONE, ("plus", ("number", (1, 2)), ("number", (1, 2))), ["=", "<=", ">="]),
            (big, less, ["!=", "<", "<="]),
            (("number", (-1, 2)), ("number", (-1, 3)), ["!=", "<", "<="]),
        ):
            for sign in makers.SIGNS:
                self.assertIs(self.at(0, ("compare", sign, a, b)), sign in right)

    def test_compare_at_the_node(self):
        condition = ("compare", ">", ("name", "stock"), ("number", (105, 1)))
        self.assertEqual([self.at(place, condition) for place in range(5)], [False, True, False, True, True])

    def test_and_or(self):
        yes = ("compare", "=", ONE, ONE)
        no = ("compare", "=", ONE, TWO)
        for c, d, both, one in ((yes, yes, 1, 1), (yes, no, 0, 1), (no, yes, 0, 1), (no, no, 0, 0)):
            self.assertIs(self.at(0, ("and", c, d)), bool(both))
            self.assertIs(self.at(0, ("or", c, d)), bool(one))
            self.assertIs(self.at(0, ("not", ("and", c, d))), not both)
            self.assertIs(self.at(0, ("and", ("not", c), ("or", c, d))), (c, d) == (no, yes))


class Choices(unittest.TestCase):
    def test_has_choices(self):
        choice = ("choice", "holder", NOTHING, NOTHING)
        never = ("compare", "=", ONE, TWO)
        for clause, expected in (
            (NOTHING, False),
            (("pay", ONE), False),
            (("next", "a"), False),
            (("both", NOTHING, ("if", LEAF, NOTHING, NOTHING)), False),
            (choice, True),
            (("choice", "writer", NOTHING, NOTHING), True),
            (("both", choice, NOTHING), True),
            (("both", NOTHING, choice), True),
            (("if", never, choice, NOTHING), True),
            (("if", never, NOTHING, choice), True),
            (("if", LEAF, NOTHING, ("both", NOTHING, ("if", never, choice, NOTHING))), True),
        ):
            self.assertIs(call_kept(self, has_choices, [("a", clause)]), expected)
            self.assertIs(call_kept(self, has_choices, [("a", NOTHING), ("b", clause)]), expected)


class Checks(unittest.TestCase):
    def setUp(self):
        self.market = two_asset_market()

    def refused(self, error, contract):
        with self.assertRaises(error) as caught:
            call_kept(self, check_contract, self.market, contract)
        self.assertIs(caught.exception.__class__, error)
        with self.assertRaises(error) as caught:
            check_book(self.market, [("held", [("a", NOTHING)]), ("written", contract)])
        self.assertIs(caught.exception.__class__, error)

    def passed(self, contract):
        self.assertIsNone(call_kept(self, check_contract, self.market, contract))
        self.assertIsNone(call_kept(self, check_book, self.market, [("written", contract)] * 4))

    def clause_refused(self, error, clause):
        """Refused alone, and at parts deep inside."""
        self.refused(error, [("a", clause)])
        self.refused(error, [("a", NOTHING), ("b", clause)])
        self.refused(error, [("a", ("both", NOTHING, clause))])
        self.refused(error, [("a", ("if", LEAF, ("choice", "holder", clause, NOTHING), NOTHING))])
        self.refused(error, [("a", ("choice", "writer", NOTHING, ("if", LEAF, NOTHING, clause)))])

    def condition_refused(self, error, condition):
        for outer in (
            condition, ("not", condition), ("and", condition, LEAF), ("and", LEAF, condition),
            ("or", condition, LEAF), ("or", LEAF, ("not", condition)),
        ):
            self.clause_refused(error, ("if", outer, NOTHING, NOTHING))

    def amount_refused(self, error, amount):
        self.condition_refused(error, ("compare", "<", amount, ONE))
        self.condition_refused(error, ("compare", "<", ONE, amount))
        for outer in (
            amount, ("plus", amount, ONE), ("plus", ONE, amount), ("times", (1, 1), amount),
            ("max", amount, ONE), ("max", ONE, amount), ("min", amount, ONE), ("min", ONE, ("times", (2, 1), amount)),
        ):
            self.refused(error, [("a", ("both", NOTHING, ("pay", outer)))])

    def test_good(self):
        for clause in (
            NOTHING, ("pay", ONE), ("next", "a"), ("both", NOTHING, NOTHING), ("if", LEAF, NOTHING, ("next", "b")),
            ("choice", "holder", NOTHING, NOTHING), ("choice", "writer", ("pay", ("time",)), NOTHING),
        ):
            self.passed([("a", clause), ("b", NOTHING)])
        rng = random.Random(2)
        for _ in range(200):
            self.passed(makers.contract(rng, self.market, 6))

    def test_many_definitions(self):
        rows = [("n" + str(place), NOTHING) for place in range(14)]
        self.refused(BadSize, [])
        for many in (1, 2, 11, 12):
            self.passed(rows[:many])
        for many in (13, 14):
            self.refused(BadSize, rows[:many])

    def test_names_of_definitions(self):
        for name in ("define", "next", "if", "holder", "written", "number", "stock", "rain", "abcdefghijkl"):
            self.passed([(name, ("next", name))])
            self.passed([("first", ("next", name)), (name, NOTHING)])
        for name in ("", "2x", "X", "abcdefghijklm", "a b", None, 3, True, ["a"], ("a",), b"a"):
            self.refused(BadName, [(name, NOTHING)])
            self.refused(BadName, [("a", NOTHING), (name, NOTHING)])
        self.refused(BadName, [("a", NOTHING), ("a", NOTHING)])
        self.refused(BadName, [("a", NOTHING), ("b", NOTHING), ("a", NOTHING)])

    def test_clauses(self):
        parts = {
            "nothing": (), "pay": (ONE,), "next": ("a",), "both": (NOTHING, NOTHING),
            "if": (LEAF, NOTHING, NOTHING), "choice": ("holder", NOTHING, NOTHING),
        }
        for word, rest in parts.items():
            self.passed([("a", (word,) + rest)])
            self.clause_refused(BadClause, (word,) + rest + (NOTHING,))
            self.clause_refused(BadClause, (word,) + rest + (None,))
            if rest:
                self.clause_refused(BadClause, (word,) + rest[:-1])
                self.clause_refused(BadClause, (word,))
        for word in ("", "leaf", "number", "time", "holder", "writer", "Pay", "nothing ", "define", "plus"):
            self.clause_refused(BadClause, (word,))
        self.clause_refused(BadClause, ("holder", NOTHING, NOTHING))
        self.clause_refused(BadClause, LEAF)
        self.clause_refused(BadClause, ONE)

    def test_conditions(self):
        parts = {
            "leaf": (), "compare": ("=", ONE, ONE), "not": (LEAF,), "and": (LEAF, LEAF), "or": (LEAF, LEAF),
        }
        for word, rest in parts.items():
            self.passed([("a", ("if", (word,) + rest, NOTHING, NOTHING))])
            self.condition_refused(BadCondition, (word,) + rest + (LEAF,))
            if rest:
                self.condition_refused(BadCondition, (word,) + rest[:-1])
        for condition in (("",), ("Leaf",), NOTHING, ONE, ("time",), ("=", ONE, ONE), ("if", LEAF, LEAF, LEAF)):
            self.condition_refused(BadCondition, condition)

    def test_amounts(self):
        parts = {
            "number": ((1, 2),), "name": ("stock",), "payout": ("stock",), "time": (), "plus": (ONE, ONE),
            "times": ((1, 2), ONE), "max": (ONE, ONE), "min": (ONE, ONE),
        }
        for word, rest in parts.items():
            self.passed([("a", ("pay", (word,) + rest))])
            self.amount_refused(BadAmount, (word,) + rest + (ONE,))
            if rest:
                self.amount_refused(BadAmount, (word,) + rest[:-1])
        for amount in (("",), ("Time",), NOTHING, LEAF, ("minus", ONE, ONE), ("stock",), ("next", "a")):
            self.amount_refused(BadAmount, amount)

    def test_unknown_names(self):
        for name in ("c", "stock", "", None, 1, ["a"], ("a",)):
            self.clause_refused(UnknownName, ("next", name))
        self.passed([("a", ("next", "b")), ("b", ("next", "a"))])
        for name in ("stock", "bond", "rain"):
            self.passed([("a", ("pay", ("name", name)))])
        for name in ("a", "sun", "", None, True, ["stock"]):
            self.amount_refused(UnknownName, ("name", name))
        for name in ("stock", "bond"):
            self.passed([("a", ("pay", ("payout", name)))])
        for name in ("a", "rain", "", None, True, ["stock"]):
            self.amount_refused(UnknownName, ("payout", name))

    def test_names_of_another_contract_are_unknown(self):
        book = [("held", [("a", NOTHING)]), ("held", [("b", ("next", "a"))])]
        self.assertRaises(UnknownName, check_book, self.market, book)

    def test_numbers(self):
        for value in ((2, 4), (1, 0), [1, 1], (True, 1), "1", None, 3, (10 ** 12, 1), (1, 10 ** 12), (1, 1, 1)):
            self.amount_refused(BadNumber, ("number", value))
            self.amount_refused(BadNumber, ("times", value, ONE))
        for value in ((10 ** 12 - 1, 1), (-1, 10 ** 12 - 1), (0, 1)):
            self.passed([("a", ("both", ("pay", ("number", value)), ("pay", ("times", value, ONE))))])

    def test_signs(self):
        for sign in makers.SIGNS:
            self.passed([("a", ("if", ("compare", sign, ONE, TWO), NOTHING, NOTHING))])
        for sign in ("", "==", "<>", "=<", "is", None, 1, True, ["="], ("=",)):
            self.condition_refused(BadSign, ("compare", sign, ONE, ONE))

    def test_who_chooses(self):
        for who in ("", "written", "held", "Holder", "ours", None, 1, True, ["holder"]):
            self.clause_refused(BadSide, ("choice", who, NOTHING, NOTHING))

    def test_depth_of_clauses(self):
        clause = NOTHING
        for within in range(16):
            if within <= 11:
                self.passed([("a", clause)])
            else:
                self.refused(TooDeep, [("a", clause)])
            clause = ("both", clause, NOTHING) if within & 1 else ("both", NOTHING, clause)

    def test_depth_of_conditions(self):
        condition = LEAF
        for within in range(1, 16):
            clause = ("if", condition, NOTHING, NOTHING)
            if within <= 11:
                self.passed([("a", clause)])
            else:
                self.refused(TooDeep, [("a", clause)])
            condition = ("not", condition)

    def test_depth_of_all_three_together(self):
        for clauses in range(5):
            for conditions in range(4):
                for amounts in range(8):
                    amount = ("time",)
                    for _ in range(amounts):
                        amount = ("times", (1, 2), amount)
                    condition = ("compare", "=", ONE, amount)
                    for _ in range(conditions):
                        condition = ("or", LEAF, condition)
                    clause = ("if", condition, NOTHING, NOTHING)
                    for _ in range(clauses):
                        clause = ("choice", "holder", NOTHING, clause)
                    # Within the "if" and the "compare" besides those that stand around them.
                    if clauses + conditions + amounts + 2 <= 11:
                        self.passed([("a", clause)])
                    else:
                        self.refused(TooDeep, [("a", clause)])

    def test_deep_ahead_of_everything_else_of_a_part(self):
        for inner in (("",), ("pay",), ("next", "zz"), ("choice", "", NOTHING, NOTHING), NOTHING):
            clause = inner
            for _ in range(12):
                clause = ("both", NOTHING, clause)
            self.refused(TooDeep, [("a", clause)])
        for inner, error in (
            (("",), BadClause), (("pay",), BadClause), (("next", "zz"), UnknownName),
            (("choice", "", NOTHING, NOTHING), BadSide), (("pay", ("",)), TooDeep),
        ):
            clause = inner
            for _ in range(11):
                clause = ("both", NOTHING, clause)
            self.refused(error, [("a", clause)])

    def test_very_deep(self):
        clause = NOTHING
        for _ in range(40):
            clause = ("both", clause, clause)
        self.assertRaises(TooDeep, check_contract, self.market, [("a", clause)])

    def test_sizes_ahead_of_names(self):
        self.refused(BadSize, [("2x", NOTHING)] * 13)

    def test_names_ahead_of_clauses(self):
        self.refused(BadName, [("a", ("bad",)), ("2x", NOTHING)])
        self.refused(BadName, [("a", ("bad",)), ("a", NOTHING)])
        self.refused(BadName, [("a", ("next", "zz")), ("b", NOTHING), ("b", NOTHING)])

    def test_earlier_definition_first(self):
        self.refused(UnknownName, [("a", ("next", "zz")), ("b", ("bad",))])
        self.refused(BadClause, [("a", ("bad",)), ("b", ("next", "zz"))])
        deep = ("pay", ("plus", ONE, ("times", (1, 1), ("number", (2, 2)))))
        self.refused(BadNumber, [("a", deep), ("b", ("bad",))])

    def test_a_part_ahead_of_its_parts(self):
        bad_amount = ("bad",)
        bad_clause = ("pay", ("number", None))
        for error, clause in (
            (BadClause, ("both", bad_clause)),
            (BadClause, ("if", ("bad",), bad_clause)),
            (BadSide, ("choice", "us", bad_clause, ("bad",))),
            (BadCondition, ("if", ("compare", "?", bad_amount), NOTHING, NOTHING)),
            (BadSign, ("if", ("compare", "?", bad_amount, bad_amount), NOTHING, NOTHING)),
            (BadNumber, ("pay", ("times", (2, 2), bad_amount))),
            (BadAmount, ("pay", ("times", (2, 2), bad_amount, ONE))),
            (BadAmount, ("pay", ("number", (2, 2), ONE))),
            (BadAmount, ("pay", ("name", "zz", ONE))),
            (BadClause, ("next", "zz", NOTHING)),
        ):
            self.refused(error, [("a", clause)])

    def test_from_left_to_right(self):
        number = ("pay", ("number", None))
        unknown = ("next", "zz")
        side = ("choice", "us", NOTHING, NOTHING)
        for error, clause in (
            (BadNumber, ("both", number, unknown)),
            (UnknownName, ("both", unknown, number)),
            (BadSide, ("both", ("both", NOTHING, ("both", NOTHING, side)), unknown)),
            (UnknownName, ("both", unknown, ("both", NOTHING, ("both", NOTHING, side)))),
            (BadCondition, ("if", ("bad",), unknown, number)),
            (BadAmount, ("if", ("and", LEAF, ("compare", "=", ("bad",), ONE)), ("bad",), ("bad",))),
            (UnknownName, ("if", LEAF, unknown, number)),
            (BadNumber, ("if", LEAF, number, unknown)),
            (BadAmount, ("pay", ("plus", ("plus", ONE, ("bad",)), ("number", None)))),
            (BadNumber, ("pay", ("plus", ("plus", ONE, ("number", None)), ("bad",)))),
            (BadSign, ("if", ("or", ("compare", "?", ONE, ONE), ("bad",)), NOTHING, NOTHING)),
            (BadCondition, ("if", ("or", ("bad",), ("compare", "?", ONE, ONE)), NOTHING, NOTHING)),
        ):
            self.refused(error, [("a", clause)])


class Books(unittest.TestCase):
    def setUp(self):
        self.market = two_asset_market()
        self.good = [("a", NOTHING)]

    def refused(self, error, book):
        with self.assertRaises(error) as caught:
            call_kept(self, check_book, self.market, book)
        self.assertIs(caught.exception.__class__, error)

    def test_many(self):
        for many in range(5):
            self.assertIsNone(check_book(self.market, [("held", self.good)] * many))
        for many in (5, 6):
            self.refused(BadSize, [("held", self.good)] * many)
            self.refused(BadSize, [("us", [])] * many)

    def test_sides(self):
        for side in ("written", "held"):
            self.assertIsNone(check_book(self.market, [(side, self.good)]))
        for side in ("", "Written", "holder", "writer", "ours", None, 1, True, ["held"]):
            self.refused(BadSide, [(side, self.good)])
            self.refused(BadSide, [("held", self.good), (side, self.good)])

    def test_order(self):
        self.refused(BadSide, [("us", [])])
        self.refused(BadSize, [("held", []), ("us", self.good)])
        self.refused(BadClause, [("held", [("a", ("bad",))]), ("us", self.good)])
        self.refused(BadSide, [("held", self.good), ("us", []), ("held", [])])

    def test_each_contract_is_checked(self):
        for place in range(4):
            book = [("held", copy.deepcopy(self.good)) for _ in range(4)]
            book[place] = ("written", [("a", ("pay", ("number", (2, 2))))])
            self.refused(BadNumber, book)


if __name__ == "__main__":
    unittest.main()
