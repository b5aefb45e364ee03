import copy
import random
import unittest
from fractions import Fraction

from surehedge.arbitrage import arbitrage_of
from surehedge.capital import capital
from surehedge.checker import check, opposite_claim, paper_of
from surehedge.copying import against, copy_of
from surehedge.errors import NotFree
from surehedge.games import exchanged, reached
from surehedge.plans import best_plan, needs
from surehedge.quotes import positive_masses, sure_gain, value_of
from surehedge.refuting import best_refutation, shown
from surehedge.steps import cost_of
from surehedge.weights import mean_weights, unfree_node
from tests import makers, second, second_quotes
from tests.helpers import call_kept, check_new, full, node, stock_market
from tests.test_capital import CALL, EARLY, choice, pay, random_case, two_steps, unfree_market
from tests.test_plans import random_plan, spoilt_plan
from tests.test_quotes import alone, fair_masses, numbers, quote, trinomial, with_rule
from tests.test_refuting import random_refutation, spoilt_refutation

LEAST = Fraction(1, 10 ** 30)
PAIRS = [("covered", "uncovered"), ("kept", "short"), ("quoted", "gain"), ("price", "noprice")]
OPPOSITES = dict(PAIRS + [(b, a) for a, b in PAIRS])


def near(number, off):
    return second.number_of(Fraction(*full(number)) + off)


def shows(market, claim, paper):
    """Point 69 once more."""
    word = claim[0]
    inner = [place for place in range(len(market[2])) if second.children(market, place)]
    if word == "free":
        return len(paper) == len(market[2]) and all(
            second.is_weights(market, place, each, positive=True) if place in inner else each == []
            for place, each in enumerate(paper)
        )
    if word == "arbitrage":
        return claim[1] in inner and len(paper) == len(market[0]) and second.wins(market, claim[1], paper)
    if word == "covered":
        return (
            len(paper) == len(market[0]) and second.keeps_rules(market, claim[1], paper)
            and second.covers(market, claim[1], claim[2], claim[3], paper)
        )
    if word == "uncovered":
        growth = Fraction(*market[2][claim[1]][1])
        return second.is_weights(market, claim[1], paper) and (
            second.product_of(paper, claim[2]) > growth * Fraction(*claim[3])
        )
    if word == "kept":
        return second.is_plan(market, claim[1], paper) and (
            Fraction(*second.needs(market, claim[1], paper)[0]) <= Fraction(*claim[2])
        )
    if word == "short":
        return second.is_refutation(market, claim[1], paper) and (
            Fraction(*second.shown(market, claim[1], paper)[0]) > Fraction(*claim[2])
        )
    return shows_more(market, claim, paper)


def shows_more(market, claim, paper):
    word = claim[0]
    if word in ("quoted", "price"):
        right = second_quotes.is_masses(market, paper, positive=True) if paper else False
        right = right and second_quotes.agree(claim[1], paper)
        return right and (word == "quoted" or second.product_of(paper, claim[2]) == Fraction(*claim[3]))
    if word == "gain":
        return second_quotes.is_sure_gain(market, claim[1], paper)
    if word == "noprice":
        return second_quotes.is_sure_gain(market, claim[1] + [(claim[2], claim[3], claim[3])], paper)
    if word == "copied":
        return second_quotes.copies(market, claim[1], (claim[2], paper))
    assert word == "uncopied"
    return second_quotes.speak_against(market, claim[1], paper)


class Judge(unittest.TestCase):
    def judge(self, market, claim, paper, right=None):
        told = call_kept(self, check, market, claim, paper)
        self.assertIs(told, shows(market, claim, paper), (claim, paper))
        if right is not None:
            self.assertIs(told, right, (claim, paper))
        return told

    def lengths(self, market, claim, paper, more):
        """A list that is too short, too long, or empty is no paper."""
        for other in (paper[:-1], paper[1:], paper + [more], [more] + paper, paper + [paper[-1]], []):
            if other != paper:
                self.judge(market, claim, other, False)

    def changed(self, market, claim, paper, places=None):
        """No paper is one if any one of its numbers is changed, however little."""
        for place in range(len(paper)) if places is None else places:
            for off in (LEAST, -LEAST):
                other = list(paper)
                other[place] = near(other[place], off)
                self.judge(market, claim, other, False)


class Steps(Judge):
    def test_free(self):
        paper = [numbers((1, 3), (2, 3)), [], []]
        self.judge(stock_market(), ("free",), paper, True)
        self.judge(alone(), ("free",), [[]], True)
        self.lengths(stock_market(), ("free",), paper, [])
        for place in (0, 1):
            for off in (LEAST, -LEAST):
                weights = list(paper[0])
                weights[place] = near(weights[place], off)
                self.judge(stock_market(), ("free",), [weights, [], []], False)
        for weights in ([], numbers(1), numbers((1, 3), (2, 3), 0)):
            self.judge(stock_market(), ("free",), [weights, [], []], False)
        for leaf in (numbers(0), numbers(1)):
            self.judge(stock_market(), ("free",), [paper[0], leaf, []], False)
            self.judge(stock_market(), ("free",), [paper[0], [], leaf], False)
        self.judge(alone(), ("free",), [], False)
        self.judge(alone(), ("free",), [numbers(1)], False)

    def test_free_needs_positive_weights(self):
        self.judge(trinomial(), ("free",), [numbers(0, 1, 0), [], [], []], False)
        self.judge(trinomial(), ("free",), [numbers((1, 6), (1, 2), (1, 3)), [], [], []], True)
        self.judge(unfree_market(), ("free",), [numbers((1, 3), (2, 3)), numbers(1), numbers(1), [], []], False)

    def test_arbitrage(self):
        market = unfree_market()
        self.judge(market, ("arbitrage", 1), numbers(1), True)
        self.judge(market, ("arbitrage", 1), numbers((1, 10 ** 30)), True)
        self.judge(market, ("arbitrage", 2), numbers(-1), True)
        for place, held in ((1, -1), (1, 0), (2, 1), (2, 0), (0, 1), (0, -1), (0, 0)):
            self.judge(market, ("arbitrage", place), numbers(held), False)
        self.lengths(market, ("arbitrage", 1), numbers(1), (0, 1))
        for rule, right in (("any", True), ("long", True), ("short", False), ("none", False)):
            market[2][1][2][0] = rule
            self.judge(market, ("arbitrage", 1), numbers(1), right)

    def test_covered(self):
        claim = ("covered", 0, numbers(15, 0), (5, 1))
        self.judge(stock_market(), claim, numbers((1, 2)), True)
        self.changed(stock_market(), claim, numbers((1, 2)))
        self.lengths(stock_market(), claim, numbers((1, 2)), (0, 1))
        # Wealth just enough, and by a very small number less or more.
        for off, right in ((-LEAST, False), (0, True), (LEAST, True)):
            self.judge(stock_market(), claim[:3] + (near(5, off),), numbers((1, 2)), right)
        self.judge(stock_market(), ("covered", 0, numbers(15, 0), (100, 1)), numbers(0), True)
        for rule, right in (("long", True), ("short", False), ("none", False)):
            self.judge(with_rule(rule), claim, numbers((1, 2)), right)

    def test_uncovered(self):
        paper = numbers((1, 3), (2, 3))
        for off, right in ((-LEAST, True), (0, False), (LEAST, False)):
            self.judge(stock_market(), ("uncovered", 0, numbers(15, 0), near(5, off)), paper, right)
        claim = ("uncovered", 0, numbers(15, 0), (4, 1))
        self.judge(stock_market(), claim, paper, True)
        self.changed(stock_market(), claim, paper)
        self.lengths(stock_market(), claim, paper, (0, 1))
        # Weights need not be positive.
        self.judge(trinomial(), ("uncovered", 0, numbers(15, 0, 0), (4, 1)), numbers((1, 3), 0, (2, 3)), True)
        self.judge(trinomial(), ("uncovered", 0, numbers(15, 0, 0), (4, 1)), numbers(0, 1, 0), False)

    def test_growth_counts(self):
        market = stock_market()
        market[2][0] = node(-1, [50], growth=(2, 1))
        paper = numbers((1, 3), (2, 3))
        for off, right in ((-LEAST, True), (0, False), (LEAST, False)):
            self.judge(market, ("uncovered", 0, numbers(15, 0), near((5, 2), off)), paper, right)
            self.judge(market, ("covered", 0, numbers(15, 0), near((5, 2), off)), numbers((1, 2)), not right)


class Books(Judge):
    def contract(self):
        """The writer chooses 1 now or the call; the holder may then take 1 less at once, or the call."""
        return [("a", choice("writer", pay(6), ("next", "b"))), ("b", choice("holder", pay(2), ("if", ("leaf",), CALL[0][1][2], ("nothing",))))]

    def test_kept(self):
        book = [("written", CALL)]
        paper = [("end", numbers((1, 2))), ("end", []), ("end", [])]
        claim = ("kept", book, (5, 1))
        self.judge(stock_market(), claim, paper, True)
        for off, right in ((-LEAST, False), (0, True), (LEAST, True)):
            self.judge(stock_market(), ("kept", book, near(5, off)), paper, right)
        self.lengths(stock_market(), claim, paper, ("end", []))
        for held in (near((1, 2), LEAST), near((1, 2), -LEAST), (0, 1)):
            self.judge(stock_market(), claim, [("end", [held]), ("end", []), ("end", [])], False)
        for held in ([], numbers((1, 2), 0)):
            self.judge(stock_market(), claim, [("end", held), ("end", []), ("end", [])], False)
        self.judge(stock_market(), ("kept", [("held", CALL)], (-5, 1)), [("end", numbers((-1, 2))), ("end", []), ("end", [])], True)
        self.judge(stock_market(), ("kept", [], (0, 1)), [("end", numbers(0)), ("end", []), ("end", [])], True)
        self.judge(alone(), ("kept", [], (-1, 10 ** 30)), [("end", [])], False)

    def test_short(self):
        book = [("written", CALL)]
        paper = [("end", numbers((1, 3), (2, 3))), ("end", []), ("end", [])]
        for off, right in ((-LEAST, True), (0, False), (LEAST, False)):
            self.judge(stock_market(), ("short", book, near(5, off)), paper, right)
        claim = ("short", book, (4, 1))
        self.judge(stock_market(), claim, paper, True)
        self.lengths(stock_market(), claim, paper, ("end", []))
        for weights in ([], numbers(1), numbers((1, 3), (2, 3), 0), numbers((1, 2), (1, 2)), numbers((2, 3), (4, 3))):
            self.judge(stock_market(), claim, [("end", weights), ("end", []), ("end", [])], False)
        self.judge(alone(), ("short", [], (-1, 10 ** 30)), [("end", [])], True)
        self.judge(alone(), ("short", [], (0, 1)), [("end", [])], False)

    def test_plans_and_refutations_are_told_apart(self):
        book = [("written", [("a", choice("writer", pay(1), pay(2)))])]
        ours = [("ours", 0, ("end", []), ("end", []))]
        self.judge(alone(), ("kept", book, (1, 1)), ours, True)
        self.judge(alone(), ("kept", book, (1, 1)), [("ours", 1) + ours[0][2:]], False)
        self.judge(alone(), ("kept", book, (2, 1)), [("ours", 1) + ours[0][2:]], True)
        for move in (2, -1):
            self.judge(alone(), ("kept", book, (2, 1)), [("ours", move) + ours[0][2:]], False)
        self.judge(alone(), ("kept", book, (2, 1)), [("theirs",) + ours[0][2:]], False)
        self.judge(alone(), ("short", book, (0, 1)), [("ours",) + ours[0][2:]], True)
        self.judge(alone(), ("short", book, (1, 1)), [("ours",) + ours[0][2:]], False)
        self.judge(alone(), ("short", exchanged(book), (-3, 1)), [("theirs", 1) + ours[0][2:]], True)
        self.judge(alone(), ("short", exchanged(book), (-2, 1)), [("theirs", 1) + ours[0][2:]], False)
        self.judge(alone(), ("short", exchanged(book), (-2, 1)), [("theirs", 0) + ours[0][2:]], True)

    def test_books_with_choices(self):
        for side in ("written", "held"):
            for contract in (self.contract(), EARLY):
                for market in (stock_market(), trinomial(), two_steps()):
                    book = [(side, contract)]
                    least = capital(market, book)
                    for off in (-LEAST, 0, LEAST):
                        wealth = near(least, off)
                        self.judge(market, ("kept", book, wealth), best_plan(market, book), off >= 0)
                        self.judge(market, ("short", book, wealth), best_refutation(market, book), off < 0)

    def test_drawn_papers(self):
        rng = random.Random(69)
        found = {"kept": [], "short": []}
        for _ in range(80):
            market, book = random_case(rng, 6)
            for word, paper, spoil in (
                ("kept", random_plan(rng, market, book), lambda each: spoilt_plan(rng, market, book, each)),
                ("short", random_refutation(rng, market, book), lambda each: spoilt_refutation(rng, each)),
            ):
                reading = needs if word == "kept" else shown
                border = reading(market, book, paper)[0]
                for off in (-LEAST, 0, LEAST):
                    claim = (word, book, near(border, off))
                    self.judge(market, claim, paper, off >= 0 if word == "kept" else off < 0)
                    found[word].append(self.judge(market, claim, spoil(paper)))
        for word in found:
            self.assertGreater(found[word].count(True), 15)
            self.assertGreater(found[word].count(False), 60)


class Quotes(Judge):
    middle = [(0, 1), (0, 1), (1, 1), (0, 1)]

    def test_quoted(self):
        claim = ("quoted", [quote([0, 0, 1, 0], (1, 4), (1, 2))])
        paper = numbers(1, (1, 6), (1, 2), (1, 3))
        self.judge(trinomial(), claim, paper, True)
        self.judge(trinomial(), ("quoted", []), paper, True)
        self.changed(trinomial(), claim, paper)
        self.lengths(trinomial(), claim, paper, (0, 1))
        self.judge(trinomial(), claim, numbers(1, (1, 5), (2, 5), (2, 5)), True)
        self.judge(trinomial(), claim, numbers(1, (1, 15), (4, 5), (2, 15)), False)
        self.judge(trinomial(), ("quoted", []), numbers(1, 0, 1, 0), False)
        self.judge(trinomial(), ("quoted", []), numbers(1, (1, 3), 0, (2, 3)), False)

    def test_gain(self):
        claim = ("gain", [quote([0, 0, 1, 0], -1, 0)])
        paper = (numbers(1), numbers(0), [numbers(0), [], [], []])
        self.judge(trinomial(), claim, paper, True)
        self.judge(trinomial(), ("gain", [quote([0, 0, 1, 0], -1, (1, 10 ** 30))]), paper, False)
        bought, sold, held = paper
        for other in (
            (numbers(0), sold, held), ([(-1, 10 ** 30)], sold, held), (bought, [(-1, 10 ** 30)], held),
            (bought, [(1, 10 ** 30)], held), (bought, sold, [[(1, 10 ** 30)], [], [], []]),
            ([], sold, held), (bought, [], held), (numbers(1, 0), sold, held), (bought, numbers(0, 0), held), (bought, sold, []),
            (bought, sold, held[1:]), (bought, sold, held + [[]]), (bought, sold, [[], [], [], []]), ([], [], []),
            (bought, sold, [numbers(0, 0), [], [], []]), (bought, sold, [numbers(0), numbers(0), [], []]),
        ):
            self.judge(trinomial(), claim, other)
        self.judge(trinomial(), claim, (numbers(0), sold, held), False)
        self.judge(trinomial(), claim, (bought, sold, [[(1, 10 ** 30)], [], [], []]), False)

    def test_price(self):
        quotes = [quote([0, 0, 1, 0], (1, 4), (1, 2))]
        call = numbers(0, 15, 0, 0)
        paper = numbers(1, (1, 6), (1, 2), (1, 3))
        claim = ("price", quotes, call, (5, 2))
        self.judge(trinomial(), claim, paper, True)
        for off in (LEAST, -LEAST):
            self.judge(trinomial(), claim[:3] + (near((5, 2), off),), paper, False)
        self.changed(trinomial(), claim, paper)
        self.lengths(trinomial(), claim, paper, (0, 1))
        # Other masses give the payments this price, but they do not agree, or are not positive.
        self.judge(trinomial(), ("price", quotes, call, (1, 1)), numbers(1, (1, 15), (4, 5), (2, 15)), False)
        self.judge(trinomial(), ("price", [], call, (1, 1)), numbers(1, (1, 15), (4, 5), (2, 15)), True)
        self.judge(trinomial(), ("price", [], call, (5, 1)), numbers(1, (1, 3), 0, (2, 3)), False)

    def test_no_price(self):
        quotes = [quote([0, 0, 1, 0], (1, 4), (1, 2))]
        # Sold for 1/2 and a very small number, and bought for 1/2.
        claim = ("noprice", quotes, self.middle, near((1, 2), LEAST))
        paper = (numbers(1, 0), numbers(0, 1), [numbers(0), [], [], []])
        self.judge(trinomial(), claim, paper, True)
        self.judge(trinomial(), claim[:3] + ((1, 2),), paper, False)
        self.judge(trinomial(), claim, (numbers(0, 1), numbers(1, 0), paper[2]), False)
        self.judge(trinomial(), claim, (numbers(1), numbers(0), paper[2]), False)
        self.judge(trinomial(), claim, ([], [], paper[2]), False)
        self.judge(trinomial(), claim, (numbers(1, 0, 0), numbers(0, 1, 0), paper[2]), False)
        self.judge(trinomial(), claim, (numbers(1, 0), numbers(0, 1), []), False)
        # At an open end: the price 0 of what pays 1 in the middle.
        open_end = ("noprice", [], self.middle, (0, 1))
        self.judge(trinomial(), open_end, (numbers(1), numbers(0), [numbers(0), [], [], []]), True)
        self.judge(trinomial(), open_end, (numbers(0), numbers(1), [numbers(0), [], [], []]), False)

    def test_copied(self):
        call = numbers(0, 15, 0)
        claim = ("copied", call, (5, 1))
        paper = [numbers((1, 2)), [], []]
        self.judge(stock_market(), claim, paper, True)
        self.lengths(stock_market(), claim, paper, [])
        for off in (LEAST, -LEAST):
            self.judge(stock_market(), ("copied", call, near(5, off)), paper, False)
            self.judge(stock_market(), claim, [[near((1, 2), off)], [], []], False)
        for held in ([], numbers((1, 2), 0)):
            self.judge(stock_market(), claim, [held, [], []], False)
        self.judge(stock_market(), claim, [paper[0], numbers(0), []], False)
        for rule, right in (("long", True), ("short", False), ("none", False)):
            self.judge(with_rule(rule), claim, paper, right)

    def test_uncopied(self):
        claim = ("uncopied", numbers(0, 15, 0, 0))
        paper = numbers(0, 1, -3, 2)
        self.judge(trinomial(), claim, paper, True)
        self.changed(trinomial(), claim, paper)
        self.lengths(trinomial(), claim, paper, (0, 1))
        self.judge(trinomial(), claim, numbers(0, -1, 3, -2), False)
        self.judge(trinomial(), claim, numbers(0, 0, 0, 0), False)
        self.judge(trinomial(), ("uncopied", numbers(0, 3, 1, 0)), paper, False)

    def test_drawn_papers(self):
        rng = random.Random(70)
        found = []
        for turn in range(120):
            market = makers.free_market(rng, 8) if turn < 80 else makers.market(rng)
            payments = makers.payments(rng, market)
            free = unfree_node(market) is None
            quotes = makers.quotes(rng, market, fair_masses(market) if free else payments)
            masses, gain = positive_masses(market, quotes), sure_gain(market, quotes)
            plan, balances = copy_of(market, payments), against(market, payments)
            if masses is None:
                self.judge(market, ("gain", quotes), gain, True)
                price = makers.small(rng)
                wider = (gain[0] + [(0, 1)], gain[1] + [(0, 1)], gain[2])
                self.judge(market, ("noprice", quotes, payments, price), wider, True)
            else:
                self.judge(market, ("quoted", quotes), masses, True)
                price = value_of(masses, payments)
                self.judge(market, ("price", quotes, payments, price), masses, True)
                self.judge(market, ("price", quotes, payments, near(price, LEAST)), masses, False)
            if plan is None:
                self.judge(market, ("uncopied", payments), balances, True)
                self.judge(market, ("uncopied", payments), [(-n, d) for n, d in balances], False)
            else:
                self.judge(market, ("copied", payments, plan[0]), plan[1], True)
                self.judge(market, ("copied", payments, near(plan[0], LEAST)), plan[1], False)
            answer = arbitrage_of(market)
            claim = ("free",) if answer[0] == "free" else answer[:2]
            self.judge(market, claim, answer[-1], True)
            found += [masses is None, plan is None, free]
        self.assertGreater(found.count(True), 60)


class Opposites(unittest.TestCase):
    def claims(self, rng, market, book):
        """A claim of each of the eight kinds, at the border, or near it, or somewhere."""
        off = rng.choice([0, 0, LEAST, -LEAST, 1, -1])
        inner = [place for place in range(len(market[2])) if second.children(market, place)]
        found = [(rng.choice(["kept", "short"]), book, near(capital(market, book), off))]
        if inner:
            place = rng.choice(inner)
            values = [makers.small(rng) for _ in second.children(market, place)]
            found.append((rng.choice(["covered", "uncovered"]), place, values, near(cost_of(market, place, values)[0], off)))
        masses = second_quotes.masses_by(market, [mean_weights(market, place) for place in range(len(market[2]))])
        quotes = makers.quotes(rng, market, masses)
        found.append((rng.choice(["quoted", "gain"]), quotes))
        payments = makers.payments(rng, market)
        price = second.number_of(second.product_of(masses, payments) + off)
        found.append((rng.choice(["price", "noprice"]), makers.quotes(rng, market, masses, 2), payments, price))
        return found

    def test_both_ways(self):
        call = [("written", CALL)]
        quotes = [quote([0, 1, 0], 0, 1)]
        for word, other in PAIRS:
            parts = {
                "covered": (0, numbers(15, 0), (5, 1)), "kept": (call, (5, 1)), "quoted": (quotes,),
                "price": (quotes, numbers(0, 1, 2), (1, 2)),
            }[word]
            self.assertEqual(check_new(self, opposite_claim, (word,) + parts), (other,) + parts)
            self.assertEqual(check_new(self, opposite_claim, (other,) + parts), (word,) + parts)

    def answered(self, market, claim):
        """Tests the answer, and returns whether the claim is true."""
        told, paper = check_new(self, paper_of, market, claim)
        self.assertIn(told[0], (claim[0], OPPOSITES[claim[0]]))
        self.assertEqual(told[1:], claim[1:])
        self.assertIs(call_kept(self, check, market, told, paper), True)
        self.assertTrue(shows(market, told, paper))
        again, _ = paper_of(market, opposite_claim(claim))
        self.assertEqual(again, told)
        return told == claim

    def test_each_kind_true_and_false(self):
        call = [("written", CALL)]
        for claim, right in (
            (("covered", 0, numbers(15, 0), (5, 1)), True), (("covered", 0, numbers(15, 0), near(5, -LEAST)), False),
            (("uncovered", 0, numbers(15, 0), (5, 1)), False), (("uncovered", 0, numbers(15, 0), near(5, -LEAST)), True),
            (("kept", call, (5, 1)), True), (("kept", call, near(5, -LEAST)), False), (("short", call, (5, 1)), False),
            (("short", call, near(5, -LEAST)), True), (("kept", call, (100, 1)), True), (("short", call, (-100, 1)), True),
            (("quoted", [quote([0, 15, 0], 5)]), True), (("quoted", [quote([0, 15, 0], near(5, LEAST))]), False),
            (("gain", [quote([0, 15, 0], 5)]), False), (("gain", [quote([0, 15, 0], near(5, LEAST))]), True),
            (("quoted", []), True), (("gain", []), False),
            (("price", [], numbers(0, 15, 0), (5, 1)), True), (("price", [], numbers(0, 15, 0), near(5, LEAST)), False),
            (("noprice", [], numbers(0, 15, 0), (5, 1)), False), (("noprice", [], numbers(0, 15, 0), near(5, -LEAST)), True),
            (("price", [quote([0, 1, 0], 1)], numbers(0, 15, 0), (5, 1)), False),
            (("noprice", [quote([0, 1, 0], 1)], numbers(0, 15, 0), (5, 1)), True),
        ):
            self.assertIs(self.answered(stock_market(), claim), right, claim)

    def test_open_ends(self):
        middle = numbers(0, 0, 1, 0)
        for price, right in ((0, False), (1, False), ((1, 2), True), ((1, 10 ** 30), True)):
            self.assertIs(self.answered(trinomial(), ("price", [], middle, full(price))), right)
            self.assertIs(self.answered(trinomial(), ("noprice", [], middle, full(price))), not right)

    def test_drawn_claims(self):
        rng = random.Random(71)
        found = {}
        for _ in range(60):
            market, book = random_case(rng, 8)
            for claim in self.claims(rng, market, book):
                found.setdefault(claim[0], []).append(self.answered(market, claim))
        for word in OPPOSITES:
            for right in (True, False):
                self.assertGreater(found[word].count(right), 2, (word, right))

    def test_not_free(self):
        for place in (1, 2):
            market = unfree_market()
            if place == 2:
                market[2].append(node(1, [110]))
            many = len(market[2])
            for claim in (
                ("covered", 0, numbers(1, 2), (1, 1)), ("uncovered", 1, numbers(1), (0, 1)), ("kept", [], (0, 1)),
                ("short", [("written", CALL)], (0, 1)), ("quoted", []), ("gain", []), ("gain", [quote([0] * many, 0)]),
                ("price", [], numbers(*[0] * many), (0, 1)), ("noprice", [], numbers(*[0] * many), (0, 1)),
            ):
                with self.assertRaises(NotFree) as caught:
                    call_kept(self, paper_of, market, claim)
                self.assertEqual(caught.exception.node, place)

    def test_check_raises_nothing_where_the_market_is_not_free(self):
        market = unfree_market()
        zero = [("end", numbers(0)), ("end", numbers(0)), ("end", numbers(0)), ("end", []), ("end", [])]
        self.assertIs(check(market, ("kept", [], (0, 1)), zero), True)
        self.assertIs(check(market, ("gain", []), ([], [], [numbers(0), numbers(1), numbers(0), [], []])), True)
        self.assertIs(check(market, ("quoted", []), numbers(1, (1, 3), (2, 3), (1, 3), (2, 3))), False)
        self.assertIs(check(market, ("covered", 1, numbers(10), (0, 1)), numbers(1)), True)
        self.assertIs(check(market, ("uncovered", 1, numbers(10), (0, 1)), numbers(1)), False)

    def test_papers_and_claims_are_not_shared(self):
        market = stock_market()
        claim = ("kept", [("written", CALL)], (5, 1))
        told, paper = paper_of(market, claim)
        before = copy.deepcopy(claim)
        told[1].clear()
        paper.clear()
        self.assertEqual(claim, before)
        self.assertEqual(len(reached(market, claim[1])), 3)


if __name__ == "__main__":
    unittest.main()
