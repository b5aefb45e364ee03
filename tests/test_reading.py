import random
import types
import unittest

from surehedge.errors import (
    BadGrowth,
    BadName,
    BadParent,
    BadSize,
    BadText,
    HedgeError,
    TooDeep,
    UnknownName,
)
from surehedge.numbers import is_short
from surehedge.reading import lines_of, read_book, read_contract, read_market, read_number, words_of
from surehedge.writing import write_book, write_contract, write_market
from tests import makers
from tests.helpers import call_kept, check_new, node, stock_market, two_asset_market
from tests.oracle import fault_in

MARKET = "assets stock\nseen rain\nnode root 1 any 100 0 3\nnode 0 21/20 long 120 -1/2 0\n"
CALL = "define call if leaf pay max plus name stock number -105 number 0 next call\n"
BOOK = "written\n" + CALL + "held\ndefine a nothing\ndefine b next a\n"


class Lines(unittest.TestCase):
    def test_lines(self):
        for text, expected in (
            ("", []),
            ("\n", [""]),
            ("a", ["a"]),
            ("a\n", ["a"]),
            ("a\nb", ["a", "b"]),
            ("a\n\nb\n", ["a", "", "b"]),
            ("a\n\n", ["a", ""]),
            ("\n\na", ["", "", "a"]),
            (" \n  ", [" ", "  "]),
            ("a\rb\x0bc\x0cd\u2028e\n", ["a\rb\x0bc\x0cd\u2028e"]),
        ):
            self.assertEqual(list(lines_of(text)), expected)

    def test_it_is_a_generator(self):
        self.assertIsInstance(lines_of("a\n"), types.GeneratorType)

    def test_words(self):
        for line, expected in (
            ("", [(1, "")]),
            (" ", [(1, ""), (2, "")]),
            ("a", [(1, "a")]),
            ("ab cd", [(1, "ab"), (4, "cd")]),
            ("ab  cd", [(1, "ab"), (4, ""), (5, "cd")]),
            ("   a", [(1, ""), (2, ""), (3, ""), (4, "a")]),
            ("a ", [(1, "a"), (3, "")]),
            ("a   ", [(1, "a"), (3, ""), (4, ""), (5, "")]),
            ("a\tb c", [(1, "a\tb"), (5, "c")]),
        ):
            self.assertEqual(check_new(self, words_of, line), expected)


class Numbers(unittest.TestCase):
    def test_written_forms(self):
        for word, expected in (
            ("0", (0, 1)), ("1", (1, 1)), ("-3", (-3, 1)), ("7/2", (7, 2)), ("-1/4", (-1, 4)), ("10", (10, 1)),
            ("999999999999", (10 ** 12 - 1, 1)), ("-999999999999", (1 - 10 ** 12, 1)), ("-7/2", (-7, 2)),
            ("1/999999999999", (1, 10 ** 12 - 1)), ("999999999998/999999999997", (10 ** 12 - 2, 10 ** 12 - 3)),
            ("100/3", (100, 3)),
        ):
            self.assertEqual(read_number(word), expected, word)

    def test_others(self):
        wrong = """
        2/4 3/1 -0 +1 00 01 -01 -00 0/1 0/2 -0/3 1/0 0/0 -1/0 1/1 4/2 -4/2 1/-2 -1/-2 1/+2 1/02 01/2 --1 - / 1/ /2 -/2
        1/2/3 1// //1 1.5 1e3 1_0 0x1 a 1a a1 1000000000000 -1000000000000 1/1000000000000 000000000001 1,5 1- ½ ² ١ -١
        10000000000000000000000000000000 1/10000000000000000000000000000000 root None inf
        """.split()
        for word in wrong + ["", " ", " 1", "1 ", "1\n", "\n1", "1 /2", "1/ 2", "- 1", "1\t"]:
            self.assertIsNone(read_number(word), word)

    def test_what_is_read_is_short_and_what_is_written(self):
        for n in range(-12, 13):
            for d in range(14):
                for word in (str(n) + "/" + str(d), "-" + str(n), "+" + str(n), "0" + str(n), str(n)):
                    told = read_number(word)
                    if told is not None:
                        self.assertTrue(is_short(told))
                        self.assertEqual(word, str(told[0]) + ("/" + str(told[1]) if told[1] != 1 else ""))


class Markets(unittest.TestCase):
    def test_plain(self):
        expected = (
            ["stock"],
            ["rain"],
            [
                node(-1, [100], values=[3]),
                node(0, [120], growth=(21, 20), rules=["long"], payouts=[(-1, 2)], values=[0]),
            ],
        )
        self.assertEqual(check_new(self, read_market, MARKET), expected)

    def test_no_seen_quantities_and_all_rules(self):
        text = "assets a b c d\nseen\nnode root 2 any 1 2 long 3 4 short 5 6 none 7 -8/3\n"
        row = (
            -1, (2, 1), ["any", "long", "short", "none"], [(n, 1) for n in (1, 3, 5, 7)],
            [(2, 1), (4, 1), (6, 1), (-8, 3)], [],
        )
        self.assertEqual(read_market(text), (["a", "b", "c", "d"], [], [row]))

    def test_words_of_the_language_as_names(self):
        text = "assets assets seen\nseen node root\nnode root 1 any 1 0 any 2 0 5 6\n"
        self.assertEqual(read_market(text)[:2], (["assets", "seen"], ["node", "root"]))

    def fault(self, text, line, column):
        with self.assertRaises(BadText) as caught:
            read_market(text)
        self.assertEqual((caught.exception.line, caught.exception.column), (line, column), text)

    def test_lines_that_are_missing(self):
        self.fault("", 1, 1)
        self.fault("assets a\n", 2, 1)
        self.fault("assets a b c\n", 2, 1)
        self.assertRaises(BadSize, read_market, "assets a\nseen\n")

    def test_lines_that_cannot_stand_there(self):
        self.fault("seen\n", 1, 1)
        self.fault("\n", 1, 1)
        self.fault("\nassets a\n", 1, 1)
        self.fault("assets a\n\n", 2, 1)
        self.fault("assets a\nassets b\n", 2, 1)
        self.fault("assets a\nnode root 1 any 1 0\n", 2, 1)
        self.fault("assets a\nseen\nseen\n", 3, 1)
        self.fault("assets a\nseen\nassets a\n", 3, 1)
        self.fault(MARKET + "\n", 5, 1)
        self.fault(MARKET + "assets a\n", 5, 1)
        self.fault(MARKET + "\n" + "node 0 1 any 1 0 0\n", 5, 1)

    def test_names(self):
        self.fault("assets\n", 1, 7)
        self.fault("assets \n", 1, 8)
        self.fault("assets 2x\n", 1, 8)
        self.fault("assets a A\n", 1, 10)
        self.fault("assets a  b\n", 1, 10)
        self.fault("assets a b \n", 1, 12)
        self.fault("assets abcdefghijklm\n", 1, 8)
        self.fault("assets a\nseen a-b\n", 2, 6)
        self.fault("assets a\nseen b c d_\n", 2, 10)
        self.fault("assets a\nseen \n", 2, 6)
        self.fault(" assets a\n", 1, 1)
        self.fault("Assets a\n", 1, 1)
        self.fault("asset a\n", 1, 1)
        self.fault("assets,a\n", 1, 1)
        self.fault("assets\ta\n", 1, 1)

    def test_node_lines(self):
        head = "assets a b\nseen c d\n"
        good = "node root 1 any 2 3 long 4 5 6 7"
        self.assertEqual(len(read_market(head + good + "\n")[2]), 1)
        words = good.split(" ")
        columns = [column for column, _ in words_of(good)]
        for place, column in enumerate(columns):
            for bad in ("", "x", "2/4", "-0", "%", "Root", "any\r", "1000000000000", "none2"):
                line = " ".join(words[:place] + [bad] + words[place + 1:])
                self.fault(head + line + "\n", 3, column)
                self.fault(head + line, 3, column)
                self.fault(head + good + "\n" + line + "\n" + "what\n", 4, column)
            if place > 0:
                line = " ".join(words[:place])
                self.fault(head + line + "\n", 3, len(line) + 1)
                self.fault(head + line, 3, len(line) + 1)
        for more in ("8", "", "any", "x y"):
            self.fault(head + good + " " + more + "\n", 3, len(good) + 2)
        self.fault(head + good, 3, len(good) + 1)

    def test_parents(self):
        for word in ("-1", "1/2", "00", "01", "+0", "1000000000000", "", "ROOT", "rooted", "r"):
            self.fault("assets a\nseen\nnode " + word + " 1 any 1 0\n", 3, 6)
        self.assertRaises(BadParent, read_market, "assets a\nseen\nnode 999999999999 1 any 1 0\n")
        self.assertRaises(BadParent, read_market, "assets a\nseen\nnode 0 1 any 1 0\n")

    def test_no_newline_at_the_end(self):
        self.fault(MARKET[:-1], 4, len(MARKET.split("\n")[3]) + 1)
        self.fault("assets a", 1, 9)
        self.fault("assets a\nseen", 2, 5)
        self.fault("assets", 1, 7)
        self.fault("assets a\nseen\nx", 3, 1)
        self.fault("x", 1, 1)
        self.fault(" ", 1, 1)
        self.fault("assets a ", 1, 10)

    def test_the_form_is_looked_at_first(self):
        for wrong, error in (
            ("assets a a\nseen\nnode root 1 any 1 0 any 1 0\n", BadName),
            ("assets a b c d e\nseen\n", BadSize),
            ("assets a\nseen b c d e f\n", BadSize),
            ("assets a\nseen\nnode 5 1 any 1 0\n", BadParent),
            ("assets a\nseen\nnode root 0 any 1 0\n", BadGrowth),
            ("assets a\nseen\nnode root -1 any 1 0\nnode 5 1 any 1 0\n", BadGrowth),
            ("assets a\nseen\n" + "node root 1 any 1 0\n" + "node 0 1 any 1 0\n" * 7, BadSize),
        ):
            with self.assertRaises(error) as caught:
                read_market(wrong)
            self.assertIs(caught.exception.__class__, error)
            self.fault(wrong + "nodes\n", wrong.count("\n") + 1, 1)
            self.fault(wrong + "\n", wrong.count("\n") + 1, 1)
        self.fault("assets a a\n", 2, 1)
        self.fault("assets a b c d e\nseen\nnode root 1 any 1 0\n", 3, 20)

    def test_writing_what_was_read(self):
        rng = random.Random(11)
        for _ in range(200):
            market = makers.market(rng)
            text = write_market(market)
            self.assertEqual(read_market(text), market)
            self.assertEqual(write_market(read_market(text)), text)


class Contracts(unittest.TestCase):
    def setUp(self):
        self.market = two_asset_market()

    def fault(self, text, line, column):
        with self.assertRaises(BadText) as caught:
            call_kept(self, read_contract, self.market, text)
        self.assertEqual((caught.exception.line, caught.exception.column), (line, column), text)
        with self.assertRaises(BadText) as caught:
            read_book(self.market, "held\n" + text)
        self.assertEqual((caught.exception.line, caught.exception.column), (line + 1, column), text)

    def test_examples(self):
        clause = (
            "if", ("leaf",), ("pay", ("max", ("plus", ("name", "stock"), ("number", (-105, 1))), ("number", (0, 1)))),
            ("next", "call"),
        )
        self.assertEqual(check_new(self, read_contract, self.market, CALL), [("call", clause)])
        self.fault("define a pay plus number 1\n", 1, 27)

    def clause(self, words):
        return read_contract(self.market, "define a " + words + "\n")[0][1]

    def test_each_clause_condition_and_amount(self):
        one = ("number", (1, 1))
        leaf = ("leaf",)
        for words, expected in (
            ("nothing", ("nothing",)),
            ("next a", ("next", "a")),
            ("both nothing pay time", ("both", ("nothing",), ("pay", ("time",)))),
            ("holder nothing next a", ("choice", "holder", ("nothing",), ("next", "a"))),
            ("writer next a nothing", ("choice", "writer", ("next", "a"), ("nothing",))),
            ("if leaf nothing next a", ("if", leaf, ("nothing",), ("next", "a"))),
            ("if not leaf nothing nothing", ("if", ("not", leaf), ("nothing",), ("nothing",))),
            ("if and leaf not leaf nothing nothing", ("if", ("and", leaf, ("not", leaf)), ("nothing",), ("nothing",))),
            ("if or not leaf leaf nothing nothing", ("if", ("or", ("not", leaf), leaf), ("nothing",), ("nothing",))),
            ("pay number -1/3", ("pay", ("number", (-1, 3)))),
            ("pay name rain", ("pay", ("name", "rain"))),
            ("pay payout bond", ("pay", ("payout", "bond"))),
            ("pay plus time number 1", ("pay", ("plus", ("time",), one))),
            ("pay times 3/2 time", ("pay", ("times", (3, 2), ("time",)))),
            ("pay max number 1 time", ("pay", ("max", one, ("time",)))),
            ("pay min min number 1 time time", ("pay", ("min", ("min", one, ("time",)), ("time",)))),
        ):
            self.assertEqual(self.clause(words), expected)
        for sign in ("=", "!=", "<", "<=", ">", ">="):
            expected = ("if", ("compare", sign, one, ("time",)), ("nothing",), ("nothing",))
            self.assertEqual(self.clause("if compare " + sign + " number 1 time nothing nothing"), expected)

    def test_words_of_the_language_as_names(self):
        for name in ("define", "next", "holder", "choice", "number", "leaf", "written", "held", "time", "root", "name"):
            text = "define " + name + " both next " + name + " nothing\n"
            self.assertEqual(read_contract(self.market, text), [(name, ("both", ("next", name), ("nothing",)))])

    def test_one_word_wrong(self):
        for line in (
            "define a both if or leaf compare <= plus time name rain times -1/2 payout bond pay number 7 next a nothing",
            "define holder holder writer next holder pay max time min number 0 name stock if not and leaf leaf nothing nothing",
        ):
            self.assertEqual(len(read_contract(self.market, line + "\n")), 1)
            words = line.split(" ")
            for place, (column, word) in enumerate(words_of(line)):
                for bad in ("", "2x", "Pay", "choice%", "+1", "=="):
                    wrong = " ".join(words[:place] + [bad] + words[place + 1:])
                    self.fault(wrong + "\n", 1, column)
                    self.fault(wrong, 1, column)
                    self.fault("define b nothing\n" + wrong + "\n\n", 2, column)
                wrong = " ".join(words[:place])
                if place > 0:
                    self.fault(wrong + "\n", 1, len(wrong) + 1)
                    self.fault(wrong, 1, len(wrong) + 1)
                    self.fault(wrong + "\n" + line + "\n", 1, len(wrong) + 1)
                    self.fault(wrong + " \n", 1, len(wrong) + 2)
                spaced = " ".join(words[:place] + [""] + words[place:])
                self.fault(spaced + "\n", 1, column)
            for more in ("", " ", "nothing", "a"):
                self.fault(line + " " + more + "\n", 1, len(line) + 2)
            self.fault(line, 1, len(line) + 1)
            self.fault("define b nothing\n" + line, 2, len(line) + 1)

    def test_words_of_other_places(self):
        for words, column in (
            ("choice holder nothing nothing", 10),
            ("leaf", 10),
            ("number 1", 10),
            ("pay leaf", 14),
            ("pay nothing", 14),
            ("pay pay time", 14),
            ("pay 1", 14),
            ("pay name 1", 19),
            ("pay number x", 21),
            ("pay times time time", 20),
            ("if time nothing nothing", 13),
            ("if nothing nothing", 13),
            ("if compare time time nothing nothing", 21),
            ("if compare = leaf time nothing nothing", 23),
            ("if compare = time time time nothing", 33),
            ("if not nothing nothing", 17),
            ("next", 14),
            ("next 1", 15),
            ("both nothing", 22),
            ("both nothing leaf", 23),
        ):
            self.fault("define a " + words + "\n", 1, column)

    def test_heads_of_lines(self):
        for line, column in (
            ("", 1), (" ", 1), ("define", 7), ("define ", 8), ("define a", 9), ("define a ", 10), ("Define a nothing", 1),
            ("define 2x nothing", 8), ("define  nothing", 8), ("a nothing", 1), ("  define a nothing", 1),
            ("define a nothing\r", 10), ("define a nothing ", 18), ("define A nothing", 8), ("node root 1", 1),
        ):
            self.fault(line + "\n", 1, column)
            self.fault("define b nothing\n" + line + "\n", 2, column)

    def test_headers_stand_in_books_only(self):
        for word in ("written", "held"):
            with self.assertRaises(BadText) as caught:
                read_contract(self.market, CALL + word + "\n")
            self.assertEqual((caught.exception.line, caught.exception.column), (2, 1))

    def test_empty(self):
        self.assertRaises(BadSize, read_contract, self.market, "")

    def test_the_form_is_looked_at_first(self):
        deep = "define a " + "both nothing " * 12 + "nothing\n"
        for wrong, error in (
            ("define a next b\n", UnknownName),
            ("define a pay name snow\n", UnknownName),
            ("define a pay payout rain\n", UnknownName),
            ("define a nothing\ndefine a nothing\n", BadName),
            ("define n nothing\n" * 13, BadSize),
            (deep, TooDeep),
        ):
            with self.assertRaises(error) as caught:
                call_kept(self, read_contract, self.market, wrong)
            self.assertIs(caught.exception.__class__, error)
            with self.assertRaises(error) as caught:
                read_book(self.market, "held\n" + wrong)
            many = wrong.count("\n")
            self.fault(wrong + "define b pay plus time\n", many + 1, 23)
            self.fault(wrong + "define b nothing", many + 1, 17)

    def test_very_deep_texts(self):
        for head, tail in (
            ("both nothing ", "nothing"), ("if leaf nothing ", "nothing"),
            ("pay plus time ", "time"), ("if not ", "leaf nothing nothing"),
        ):
            first, _, repeated = head.partition(" ")
            if first in ("pay", "if") and head != "if leaf nothing ":
                text = "define a " + first + " " + repeated * 5000 + tail
            else:
                text = "define a " + head * 5000 + tail
            self.assertRaises(TooDeep, read_contract, self.market, text + "\n")
            self.fault(text[:-len(tail) - 1] + "\n", 1, len(text) - len(tail))

    def test_writing_what_was_read(self):
        rng = random.Random(12)
        for _ in range(300):
            contract = makers.contract(rng, self.market, 8)
            text = write_contract(contract)
            self.assertEqual(check_new(self, read_contract, self.market, text), contract)
            self.assertEqual(write_contract(read_contract(self.market, text)), text)


class Books(unittest.TestCase):
    def setUp(self):
        self.market = stock_market()

    def fault(self, text, line, column):
        with self.assertRaises(BadText) as caught:
            call_kept(self, read_book, self.market, text)
        self.assertEqual((caught.exception.line, caught.exception.column), (line, column), text)

    def test_plain(self):
        call = read_contract(self.market, CALL)
        expected = [("written", call), ("held", [("a", ("nothing",)), ("b", ("next", "a"))])]
        self.assertEqual(check_new(self, read_book, self.market, BOOK), expected)
        self.assertEqual(check_new(self, read_book, self.market, ""), [])

    def test_lines_that_cannot_stand_there(self):
        self.fault(CALL, 1, 1)
        self.fault("\n", 1, 1)
        self.fault("\n" + BOOK, 1, 1)
        self.fault("held\nheld\n", 2, 1)
        self.fault("held\nwritten\n" + CALL, 2, 1)
        self.fault("held\n\n", 2, 1)
        self.fault(BOOK + "\n", 6, 1)
        self.fault(BOOK + "held\nwritten\n", 7, 1)
        self.fault(BOOK + "node root 1\n", 6, 1)

    def test_lines_that_are_missing(self):
        self.fault("held\n", 2, 1)
        self.fault("written\n", 2, 1)
        self.fault(BOOK + "held\n", 7, 1)

    def test_words(self):
        self.fault("held a\n", 1, 6)
        self.fault("held \n", 1, 6)
        self.fault("written  \n", 1, 9)
        self.fault(" held\n", 1, 1)
        self.fault("Held\n", 1, 1)
        self.fault("hold\n", 1, 1)
        self.fault("held\n" + CALL + "written define\n", 3, 9)
        self.fault("held\n" + CALL + "written " + CALL, 3, 9)
        self.fault("held\n" + CALL + "writ\n", 3, 1)
        self.fault("held\n" + CALL + " \n", 3, 1)

    def test_no_newline_at_the_end(self):
        self.fault("held", 1, 5)
        self.fault("hel", 1, 1)
        self.fault("held ", 1, 6)
        self.fault("held\n" + CALL + "written", 3, 8)
        self.fault(BOOK[:-1], 5, 16)

    def test_the_form_is_looked_at_first(self):
        wrong = "held\ndefine a next b\n"
        self.assertRaises(UnknownName, read_book, self.market, wrong)
        self.fault(wrong + "held\n", 4, 1)
        self.fault(wrong + "held\ndefine a\n", 4, 9)
        many = "held\ndefine a nothing\n"
        self.assertEqual(len(read_book(self.market, many * 4)), 4)
        self.assertRaises(BadSize, read_book, self.market, many * 5)
        self.fault(many * 5 + "held\n", 12, 1)
        self.assertRaises(BadSize, read_book, self.market, many * 4 + wrong)

    def test_writing_what_was_read(self):
        rng = random.Random(13)
        self.assertEqual(write_book(read_book(self.market, "")), "")
        for _ in range(150):
            book = makers.book(rng, self.market, 4, 5)
            text = write_book(book)
            self.assertEqual(read_book(self.market, text), book)
            self.assertEqual(write_book(read_book(self.market, text)), text)


class Faults(unittest.TestCase):
    """Texts with random faults, against a second reading of point 22."""

    WORDS = """
    assets seen node root any long none 0 1 -1/2 2/4 100 a b2 2x stock define written held nothing pay next both if
    holder writer choice number name payout time plus times max leaf compare not and or = != < ==
    """.split() + ["", "A", "1000000000000"]

    def spoilt(self, rng, text):
        lines = text.split("\n")
        for _ in range(rng.randint(1, 2)):
            place = rng.randrange(len(lines))
            words = lines[place].split(" ")
            at = rng.randrange(len(words))
            kind = rng.randrange(8)
            if kind <= 1:
                words[at] = rng.choice(self.WORDS)
            if kind == 2:
                del words[at]
            if kind == 3:
                words.insert(at, rng.choice(self.WORDS))
            if kind == 4:
                words = words[:at]
            lines[place] = " ".join(words)
            if kind == 5:
                del lines[place]
                lines = lines or [""]
            if kind == 6:
                lines.insert(place, rng.choice(lines))
        text = "\n".join(lines)
        return text[:-1] if rng.randrange(8) == 0 else text

    def check(self, kind, text, read):
        expected = fault_in(kind, text)
        try:
            read(text)
        except BadText as error:
            self.assertEqual((error.line, error.column), expected, text)
            return 1
        except HedgeError:
            pass
        self.assertIsNone(expected, text)
        return 0

    def test_markets(self):
        rng = random.Random(21)
        faults = sum(
            self.check("market", self.spoilt(rng, write_market(makers.market(rng))), read_market) for _ in range(1500)
        )
        self.assertGreater(faults, 500)

    def test_contracts(self):
        rng = random.Random(22)
        market = two_asset_market()
        faults = 0
        for _ in range(1500):
            text = self.spoilt(rng, write_contract(makers.contract(rng, market, 5)))
            faults += self.check("contract", text, lambda told: read_contract(market, told))
        self.assertGreater(faults, 500)

    def test_books(self):
        rng = random.Random(23)
        market = two_asset_market()
        faults = 0
        for _ in range(1500):
            text = self.spoilt(rng, write_book(makers.book(rng, market, 3, 4)))
            faults += self.check("book", text, lambda told: read_book(market, told))
        self.assertGreater(faults, 500)


if __name__ == "__main__":
    unittest.main()
