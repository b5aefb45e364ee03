import unittest

from surehedge.writing import (
    write_amount,
    write_book,
    write_clause,
    write_condition,
    write_contract,
    write_market,
    write_number,
)
from tests.helpers import call_kept, node, stock_market, two_asset_market

ONE = ("number", (1, 1))
HALF = ("number", (-1, 2))
LEAF = ("leaf",)
NOTHING = ("nothing",)


class Parts(unittest.TestCase):
    def test_numbers(self):
        for number, expected in (
            ((0, 1), "0"), ((-3, 1), "-3"), ((7, 2), "7/2"), ((-1, 4), "-1/4"), ((999999999999, 1), "999999999999"),
            ((-999999999998, 999999999999), "-999999999998/999999999999"), ((1, 10), "1/10"),
        ):
            self.assertEqual(write_number(number), expected)

    def test_amounts(self):
        for amount, expected in (
            (HALF, "number -1/2"),
            (("name", "stock"), "name stock"),
            (("payout", "number"), "payout number"),
            (("time",), "time"),
            (("plus", ONE, HALF), "plus number 1 number -1/2"),
            (("times", (3, 4), ("time",)), "times 3/4 time"),
            (("max", ("time",), ("min", ONE, HALF)), "max time min number 1 number -1/2"),
            (("min", ("max", ONE, HALF), ("time",)), "min max number 1 number -1/2 time"),
        ):
            self.assertEqual(write_amount(amount), expected)

    def test_conditions(self):
        for sign in ("=", "!=", "<", "<=", ">", ">="):
            self.assertEqual(write_condition(("compare", sign, ("time",), ONE)), "compare " + sign + " time number 1")
        for condition, expected in (
            (LEAF, "leaf"),
            (("not", LEAF), "not leaf"),
            (("and", ("not", LEAF), LEAF), "and not leaf leaf"),
            (("or", LEAF, ("not", LEAF)), "or leaf not leaf"),
        ):
            self.assertEqual(write_condition(condition), expected)

    def test_clauses(self):
        for clause, expected in (
            (NOTHING, "nothing"),
            (("pay", HALF), "pay number -1/2"),
            (("next", "choice"), "next choice"),
            (("both", ("next", "a"), NOTHING), "both next a nothing"),
            (("if", ("not", LEAF), NOTHING, ("pay", ("time",))), "if not leaf nothing pay time"),
            (("choice", "holder", ("next", "a"), NOTHING), "holder next a nothing"),
            (("choice", "writer", NOTHING, ("choice", "holder", NOTHING, NOTHING)), "writer nothing holder nothing nothing"),
        ):
            self.assertEqual(write_clause(clause), expected)


class Texts(unittest.TestCase):
    def test_markets(self):
        expected = "assets stock\nseen\nnode root 1 any 100 0\nnode 0 1 any 120 0\nnode 0 1 any 90 0\n"
        self.assertEqual(call_kept(self, write_market, stock_market()), expected)
        expected = (
            "assets stock bond\n"
            "seen rain\n"
            "node root 11/10 long 100 0 short 50 0 3\n"
            "node 0 1 none 120 2 any 49 1/2 1/3\n"
            "node 0 1 any -90/7 -1 any 51 0 -4\n"
            "node 1 1 any 130 0 any 50 5 0\n"
            "node 1 1 any 110 0 any 50 0 9\n"
        )
        self.assertEqual(call_kept(self, write_market, two_asset_market()), expected)
        market = (["a"], ["b", "c"], [node(-1, [(1, 3)], rules=["none"], payouts=[-2], values=[(1, 2), 7])])
        self.assertEqual(write_market(market), "assets a\nseen b c\nnode root 1 none 1/3 -2 1/2 7\n")

    def test_contracts_and_books(self):
        one = [("a", ("next", "define")), ("define", NOTHING)]
        text = "define a next define\ndefine define nothing\n"
        self.assertEqual(call_kept(self, write_contract, one), text)
        other = [("b", ("choice", "writer", NOTHING, NOTHING))]
        book = [("written", one), ("held", other), ("held", one)]
        expected = "written\n" + text + "held\ndefine b writer nothing nothing\n" + "held\n" + text
        self.assertEqual(call_kept(self, write_book, book), expected)
        self.assertEqual(write_book([]), "")


if __name__ == "__main__":
    unittest.main()
