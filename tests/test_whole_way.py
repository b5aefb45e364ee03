"""The whole way: from texts to a book that is kept down to a leaf, and its journal replayed."""

import random
import unittest
from fractions import Fraction

from surehedge.capital import capital, capitals
from surehedge.checker import check, opposite_claim, paper_of
from surehedge.desk import Desk, replay
from surehedge.errors import HedgeError, NotEnough
from surehedge.games import first_state, game_of, reached
from surehedge.moves import capital_with, up_line
from surehedge.lines import first_slope
from surehedge.plans import best_plan, follow, is_plan, needs
from surehedge.reading import read_book, read_market
from surehedge.refuting import best_refutation, is_refutation, play_against, shown
from surehedge.whole import is_covered, moves_that_matter, netting
from surehedge.writing import write_book, write_market
from tests import second
from tests.test_capital import random_case
from tests.test_desk import show

MARKET = """assets stock bond
seen rain
node root 1 any 100 0 long 50 0 0
node 0 11/10 any 120 0 long 50 0 3
node 0 1 any 100 0 long 50 1/2 0
node 0 1 any 90 0 none 49 0 -1
node 1 1 any 132 0 any 55 0 4
node 1 1 any 132 0 any 55 0 0
node 3 1 any 100 0 none 50 0 0
node 3 1 any 85 0 none 50 0 7/2
"""
BOOK = """written
define early holder pay plus name stock number -100 next early
held
define guard if leaf writer pay name rain nothing both pay number 1/4 next guard
"""


def sequence(game, tree, theirs):
    """All moves along a tree of a plan, if the others make these moves."""
    moves = []
    theirs = list(theirs)
    while game[0] != "end":
        if game[0] == "ours":
            move = tree[1]
            tree = tree[2 + move]
        else:
            move = theirs.pop(0)
            tree = tree[1 + move]
        moves.append(move)
        game = game[2 + move]
    return moves


def drawn_theirs(rng, game, tree):
    """Moves of the others, as many as come up along the tree."""
    moves = []
    while game[0] != "end":
        if game[0] == "ours":
            move = tree[1]
            tree = tree[2 + move]
        else:
            move = rng.choice([0, 1])
            moves.append(move)
            tree = tree[1 + move]
        game = game[2 + move]
    return moves


class WholeWay(unittest.TestCase):
    def walk(self, rng, market, book):
        """The book is kept by a desk that begins with the capital and follows a best plan."""
        text = write_market(market)
        self.assertEqual(read_market(text), market)
        self.assertEqual(write_market(read_market(text)), text)
        self.assertEqual(read_book(market, write_book(book)), book)
        least = capital(market, book)
        plan, refutation = best_plan(market, book), best_refutation(market, book)
        self.assertTrue(is_plan(market, book, plan) and is_refutation(market, book, refutation))
        self.assertEqual(needs(market, book, plan), capitals(market, book))
        self.assertEqual(shown(market, book, refutation), capitals(market, book))
        self.assertIsNone(play_against(market, book, plan, wealth=least))
        self.assertIs(check(market, ("kept", book, least), plan), True)
        less = second.number_of(Fraction(*least) - Fraction(1, 10 ** 20))
        self.assertIs(check(market, ("short", book, less), refutation), True)
        self.assertEqual(paper_of(market, ("kept", book, less))[0], opposite_claim(("kept", book, less)))
        self.assertIs(is_covered(market, book), least[0] <= 0)
        self.assertEqual(netting(market, book)[0], least)
        self.assertEqual(len(moves_that_matter(market, book)), len(plan))
        slope, length = first_slope(up_line(market, book, len(market[2]) - 1))
        if length is not None:
            more = Fraction(*capital_with(market, book, len(market[2]) - 1, length)) - Fraction(*least)
            self.assertEqual(more, Fraction(*slope) * Fraction(*length))
        self.follow(rng, market, book, plan)

    def follow(self, rng, market, book, plan):
        trees = dict(zip([repr(pair) for pair in reached(market, book)], plan))
        wealth = Fraction(1000)
        desk = Desk(market, wealth=(1000, 1))
        for side, contract in book:
            desk.take(side, contract, price=(0, 1))
        node, state, play, steps = 0, first_state(book), [], []
        while True:
            tree = trees[repr((node, state))]
            game = game_of(market, book, node, state)
            self.assertEqual((desk.position, desk.state, desk.game(), desk.book), (node, state, game, book))
            theirs = drawn_theirs(rng, game, tree)
            play.append((node, theirs))
            had = desk.wealth
            paid = desk.settle(sequence(game, tree, theirs))
            below = second.children(market, node)
            holdings = self.holdings(game, tree, theirs)
            steps.append((node, state, had, paid, desk.state, holdings))
            state = desk.state
            if not below:
                break
            node = rng.choice(below)
            desk.go(holdings, child=node)
        self.assertEqual(follow(market, book, plan, wealth=second.number_of(wealth), play=play), steps)
        self.assertGreaterEqual(Fraction(*desk.wealth), 0)
        self.assertEqual(show(replay(market, (1000, 1), desk.journal())), show(desk))
        while desk.can_undo:
            desk.undo()
        self.assertEqual((desk.wealth, desk.position, len(desk)), ((1000, 1), 0, 0))
        self.assertEqual(show(replay(market, (1000, 1), desk.journal())), show(desk))

    def holdings(self, game, tree, theirs):
        """The holdings at the end to which the tree and these moves lead."""
        theirs = list(theirs)
        while tree[0] != "end":
            tree = tree[2 + tree[1]] if tree[0] == "ours" else tree[1 + theirs.pop(0)]
        return tree[1]

    def test_a_market_from_a_text(self):
        market = read_market(MARKET)
        book = read_book(market, BOOK)
        self.assertEqual(write_market(market), MARKET)
        self.assertEqual(write_book(book), BOOK)
        rng = random.Random(82)
        for _ in range(6):
            self.walk(rng, market, book)

    def test_just_the_capital(self):
        # With the capital itself the desk can be led along; with a very small number less it takes nothing on.
        market = read_market(MARKET)
        (side, contract), (_, guard) = read_book(market, BOOK)
        whole = capital(market, [("held", guard), (side, contract)])
        desk = Desk(market, wealth=(0, 1))
        with self.assertRaises(NotEnough):
            desk.take(side, contract, price=second.number_of(Fraction(*capital(market, [(side, contract)])) - Fraction(1, 10 ** 9)))
        desk.take("held", guard, price=(0, 1))
        before = desk.surplus()
        desk.take(side, contract, price=(20, 1))
        self.assertEqual(Fraction(*desk.surplus()), 20 - Fraction(*whole))
        self.assertGreaterEqual(Fraction(*before), 0)

    def test_drawn_ones(self):
        rng = random.Random(83)
        done = 0
        while done < 40:
            market, book = random_case(rng, 8)
            for place, row in enumerate(market[2]):
                if not all(abs(n) < 10 ** 12 and d < 10 ** 12 for each in row[3:] for n, d in each):
                    self.fail("numbers are short")
            if abs(Fraction(*capital(market, book))) > 900:
                continue
            try:
                Desk(market, wealth=(1000, 1)).do_all([("take", side, contract, (0, 1)) for side, contract in book])
            except HedgeError:
                continue
            self.walk(rng, market, book)
            done += 1


if __name__ == "__main__":
    unittest.main()
