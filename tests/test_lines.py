import random
import time
import unittest
from fractions import Fraction

from surehedge.lines import (
    add_lines,
    first_slope,
    greater_line,
    is_line,
    lesser_line,
    scale_line,
    straight,
    value_at,
)
from tests import makers, second
from tests.helpers import call_kept, check_new
from tests.test_quotes import numbers

BIG = 10 ** 40


def pieces(*rows):
    """Pieces of numbers or whole numbers."""
    return [tuple(numbers(*row)) for row in rows]


def made(value, slopes):
    """The line with this value at 0 and these slopes, tuples (start, slope)."""
    line = []
    for start, slope in slopes:
        value = value if not line else told(line, start)
        line.append((Fraction(start), Fraction(value), Fraction(slope)))
    return [tuple(second.number_of(each) for each in piece) for piece in line]


def told(line, x):
    """What a line tells, as a fraction; its pieces are of fractions or numbers."""
    rows = [[each if isinstance(each, Fraction) else Fraction(*each) for each in piece] for piece in line]
    start, value, slope = [row for row in rows if row[0] <= x][-1]
    return value + slope * (x - start)


def is_one(line):
    """Point 63 once more."""
    if not line or Fraction(*line[0][0]) != 0:
        return False
    for before, piece in zip(line, line[1:]):
        start, value, slope = [Fraction(*each) for each in piece]
        if start <= Fraction(*before[0]) or slope == Fraction(*before[2]):
            return False
        if value != Fraction(*before[1]) + Fraction(*before[2]) * (start - Fraction(*before[0])):
            return False
    return True


def places(*lines):
    """All starts, some numbers between them, and numbers beyond."""
    starts = sorted({Fraction(*piece[0]) for line in lines for piece in line})
    between = [a + (b - a) * part for a, b in zip(starts, starts[1:]) for part in (Fraction(1, 1000), Fraction(1, 3), Fraction(1, 2), Fraction(999, 1000))]
    return starts + between + [starts[-1] + off for off in (Fraction(1, 10 ** 6), 1, 1000, BIG)]


def random_line(rng, most=6):
    starts = sorted({Fraction(rng.randint(1, 24), rng.choice([1, 2, 3])) for _ in range(rng.randint(0, most))})
    slopes = [(Fraction(0), rng.randint(-3, 3))]
    for start in starts:
        slopes.append((start, rng.choice([each for each in range(-3, 4) if each != slopes[-1][1]])))
    return made(Fraction(rng.randint(-6, 6), rng.choice([1, 2])), slopes)


class Lines(unittest.TestCase):
    def judge(self, line, right):
        self.assertIs(call_kept(self, is_line, line), right)
        self.assertIs(is_one(line), right)

    def test_lines(self):
        self.judge(pieces((0, 0, 0)), True)
        self.judge(pieces((0, -5, (7, 2))), True)
        self.judge(pieces((0, 1, 2), (3, 7, 0), ((7, 2), 7, -1)), True)
        self.judge(pieces((0, 1, 2), ((1, BIG), (BIG // 2 + 1, BIG // 2), 1)), True)
        self.judge(pieces((0, 0, 0), (1, 0, 1), (2, 1, 0), (3, 1, 1)), True)

    def test_what_is_none(self):
        self.judge([], False)
        self.judge(pieces((1, 0, 0)), False)
        self.judge(pieces((-1, 0, 0)), False)
        self.judge(pieces(((1, BIG), 0, 0)), False)
        self.judge(pieces((-1, 0, 0), (0, 0, 1)), False)

    def test_starts_that_do_not_ascend(self):
        self.judge(pieces((0, 1, 2), (0, 1, 3)), False)
        self.judge(pieces((0, 1, 2), (3, 7, 0), (3, 7, 1)), False)
        self.judge(pieces((0, 1, 2), (3, 7, 0), (2, 7, 1)), False)
        self.judge(pieces((0, 1, 2), (-1, -1, 0)), False)
        self.judge(pieces((0, 1, 0), (4, 1, 1), (3, 0, 2)), False)

    def test_jumps(self):
        self.judge(pieces((0, 1, 2), (3, 8, 0)), False)
        self.judge(pieces((0, 1, 2), (3, (7 * BIG + 1, BIG), 0)), False)
        self.judge(pieces((0, 1, 2), (3, 7, 0), (5, 9, 2)), False)
        self.judge(pieces((0, 1, 2), (3, 7, 1), (5, 10, 2)), False)

    def test_the_same_slope_twice(self):
        self.judge(pieces((0, 1, 2), (3, 7, 2)), False)
        self.judge(pieces((0, 1, 2), (3, 7, 0), (4, 7, 0)), False)
        self.judge(pieces((0, 1, 2), (3, 7, 0), (4, 7, 2)), True)

    def test_values(self):
        line = pieces((0, 1, 2), (3, 7, -1), ((7, 2), (13, 2), 0))
        for x, value in ((0, 1), ((1, 2), 2), (1, 3), (3, 7), ((13, 4), (27, 4)), ((7, 2), (13, 2)), (4, (13, 2)), (BIG, (13, 2))):
            self.assertEqual([call_kept(self, value_at, line, numbers(x)[0])], numbers(value))
        self.assertEqual(value_at(pieces((0, -2, (1, 3))), (BIG, 1)), (BIG - 6, 3))
        self.assertEqual(value_at(pieces((0, 5, 0)), (0, 1)), (5, 1))

    def test_straight(self):
        self.assertEqual(check_new(self, straight, (5, 1), (-1, 3)), pieces((0, 5, (-1, 3))))
        self.assertEqual(straight((0, 1), (0, 1)), pieces((0, 0, 0)))

    def test_first_slopes(self):
        self.assertEqual(call_kept(self, first_slope, pieces((0, 5, (-1, 3)))), ((-1, 3), None))
        self.assertEqual(first_slope(pieces((0, 1, 2), (3, 7, -1))), ((2, 1), (3, 1)))
        self.assertEqual(first_slope(pieces((0, 1, 0), ((1, 2), 1, -1), (7, (-11, 2), 4))), ((0, 1), (1, 2)))


class Together(unittest.TestCase):
    def right(self, line, others, rule):
        """Tests whether it is a line that tells what the rule makes of the other ones."""
        self.assertIs(is_line(line), True)
        self.assertTrue(is_one(line))
        for x in places(line, *others):
            self.assertEqual(told(line, x), rule(*[told(other, x) for other in others]), x)

    def judge(self, line, other):
        """All that is made of two lines, in both orders."""
        self.assertTrue(is_line(line) and is_line(other))
        for one, two in ((line, other), (other, line)):
            self.right(check_new(self, add_lines, one, two), [one, two], lambda a, b: a + b)
            self.right(check_new(self, greater_line, one, two), [one, two], max)
            self.right(check_new(self, lesser_line, one, two), [one, two], min)

    def test_sums(self):
        self.assertEqual(add_lines(pieces((0, 1, 2)), pieces((0, -1, 3))), pieces((0, 0, 5)))
        self.assertEqual(add_lines(pieces((0, 1, 2), (3, 7, 0)), pieces((0, 0, 1))), pieces((0, 1, 3), (3, 10, 1)))
        self.assertEqual(
            add_lines(pieces((0, 1, 2), (3, 7, 0)), pieces((0, 0, 1), (2, 2, 5))), pieces((0, 1, 3), (2, 7, 7), (3, 14, 5))
        )
        self.assertEqual(add_lines(pieces((0, 0, 1), (2, 2, 0)), pieces((0, 0, 2), (2, 4, 0))), pieces((0, 0, 3), (2, 6, 0)))

    def test_sums_without_needless_pieces(self):
        self.assertEqual(add_lines(pieces((0, 0, 1), (2, 2, 0)), pieces((0, 5, 0), (2, 5, 1))), pieces((0, 5, 1)))
        self.assertEqual(add_lines(pieces((0, 0, 1), (2, 2, 0)), pieces((0, 0, -1), (2, -2, 0))), pieces((0, 0, 0)))
        self.assertEqual(
            add_lines(pieces((0, 0, 1), (2, 2, 0), (3, 2, 1)), pieces((0, 5, 0), (2, 5, 1))), pieces((0, 5, 1), (3, 8, 2))
        )

    def test_lines_that_cross_between_starts(self):
        self.judge(pieces((0, 0, 1), (10, 10, 2)), pieces((0, 3, 0), (10, 3, 1)))
        self.assertEqual(
            greater_line(pieces((0, 0, 1), (10, 10, 2)), pieces((0, 3, 0), (10, 3, 1))), pieces((0, 3, 0), (3, 3, 1), (10, 10, 2))
        )
        self.assertEqual(
            lesser_line(pieces((0, 0, 1), (10, 10, 2)), pieces((0, 3, 0), (10, 3, 1))), pieces((0, 0, 1), (3, 3, 0), (10, 3, 1))
        )
        self.judge(pieces((0, 0, 1), (4, 4, -1), (8, 0, 1)), pieces((0, 2, 0)))

    def test_lines_that_cross_at_a_start(self):
        self.judge(pieces((0, 0, 1), (3, 3, 2)), pieces((0, 3, 0)))
        self.judge(pieces((0, 0, 1), (3, 3, 2)), pieces((0, 6, -1), (3, 3, -2)))
        self.judge(pieces((0, 1, 1)), pieces((0, 1, -1)))
        self.assertEqual(greater_line(pieces((0, 1, 1)), pieces((0, 1, -1))), pieces((0, 1, 1)))
        self.assertEqual(greater_line(pieces((0, 0, 1)), pieces((0, 6, -1), (3, 3, -2))), pieces((0, 6, -1), (3, 3, 1)))

    def test_lines_that_cross_behind_the_last_start(self):
        self.judge(pieces((0, 0, 1), (3, 3, 2)), pieces((0, 100, 0), (1, 100, -1)))
        self.judge(pieces((0, 0, 1)), pieces((0, BIG, 0)))
        self.assertEqual(greater_line(pieces((0, 0, 1)), pieces((0, BIG, 0))), pieces((0, BIG, 0), (BIG, BIG, 1)))
        self.judge(pieces((0, 0, (1, BIG))), pieces((0, 1, 0)))

    def test_lines_that_touch(self):
        self.judge(pieces((0, 0, 1), (3, 3, -1)), pieces((0, 3, 0)))
        self.assertEqual(greater_line(pieces((0, 0, 1), (3, 3, -1)), pieces((0, 3, 0))), pieces((0, 3, 0)))
        self.assertEqual(lesser_line(pieces((0, 0, 1), (3, 3, -1)), pieces((0, 3, 0))), pieces((0, 0, 1), (3, 3, -1)))
        self.judge(pieces((0, 3, -1), (3, 0, 1)), pieces((0, 0, 0)))
        self.judge(pieces((0, 3, -1), (3, 0, 1)), pieces((0, -3, 1), (3, 0, -1)))
        self.judge(pieces((0, 1, 1)), pieces((0, 1, 2)))

    def test_lines_that_are_equal_on_a_stretch(self):
        self.judge(pieces((0, 0, 1), (3, 3, 0)), pieces((0, 0, 1), (5, 5, 2)))
        self.judge(pieces((0, 5, 0), (2, 5, 1), (6, 9, 2)), pieces((0, 9, -2), (2, 5, 1), (4, 7, 0)))
        self.judge(pieces((0, 5, -1), (2, 3, 0), (4, 3, 1)), pieces((0, 1, 1), (2, 3, 0), (4, 3, -1)))
        self.assertEqual(
            greater_line(pieces((0, 5, -1), (2, 3, 0), (4, 3, 1)), pieces((0, 1, 1), (2, 3, 0), (4, 3, -1))),
            pieces((0, 5, -1), (2, 3, 0), (4, 3, 1)),
        )
        line = pieces((0, 1, 2), (3, 7, -1))
        self.judge(line, list(line))
        self.assertEqual(greater_line(line, line), line)
        self.assertEqual(lesser_line(line, line), line)

    def test_parallel_lines(self):
        self.judge(pieces((0, 0, 1)), pieces((0, 1, 1)))
        self.judge(pieces((0, 0, 1), (3, 3, 2)), pieces((0, 1, 1), (3, 4, 2)))
        self.judge(pieces((0, 0, 1), (3, 3, 2)), pieces((0, 1, 1), (4, 5, 2)))
        self.assertEqual(greater_line(pieces((0, 0, 1)), pieces((0, 1, 1))), pieces((0, 1, 1)))

    def test_lines_times_numbers(self):
        line = pieces((0, 1, 2), (3, 7, -1))
        for factor in (1, 2, (1, 3), -1, (-5, 2), 0, (1, BIG), -BIG):
            number = numbers(factor)[0]
            scaled = check_new(self, scale_line, line, number)
            self.right(scaled, [line], lambda a, by=Fraction(*number): a * by)
        self.assertEqual(scale_line(line, (0, 1)), pieces((0, 0, 0)))
        self.assertEqual(scale_line(line, (-1, 1)), pieces((0, -1, -2), (3, -7, 1)))
        self.assertEqual(scale_line(line, (1, 2)), pieces((0, (1, 2), 1), (3, (7, 2), (-1, 2))))
        self.assertEqual(scale_line(pieces((0, 0, 0)), (5, 1)), pieces((0, 0, 0)))

    def test_drawn_lines(self):
        rng = random.Random(64)
        for _ in range(150):
            line, other = random_line(rng), random_line(rng)
            self.judge(line, other)
            number = makers.small(rng)
            self.right(scale_line(line, number), [line], lambda a, by=Fraction(*number): a * by)
            for x in places(line):
                self.assertEqual(Fraction(*call_kept(self, value_at, line, second.number_of(x))), told(line, x))

    def test_numbers_of_twelve_figures(self):
        rng = random.Random(65)
        for _ in range(20):
            lines = []
            for _ in range(2):
                slopes = [(Fraction(0), Fraction(*makers.wide(rng)))]
                for _ in range(5):
                    slopes.append((slopes[-1][0] + abs(Fraction(*makers.wide(rng))), Fraction(*makers.wide(rng))))
                lines.append(made(Fraction(*makers.wide(rng)), slopes))
            self.judge(*lines)

    def test_long_lines(self):
        rng = random.Random(68)
        begun = time.monotonic()
        lines = []
        for _ in range(2):
            slopes = [(0, 0)]
            while len(slopes) < 400:
                slope = rng.choice([each for each in range(-50, 51) if each != slopes[-1][1]])
                slopes.append((slopes[-1][0] + Fraction(rng.randint(1, 9), rng.randint(1, 9)), slope))
            lines.append(made(0, [(Fraction(start), Fraction(slope)) for start, slope in slopes]))
        for function in (add_lines, greater_line, lesser_line):
            line = function(*lines)
            self.assertTrue(is_line(line))
            self.assertGreater(len(line), 300)
        for x in range(0, 400, 7):
            values = [Fraction(*value_at(line, (x, 1))) for line in lines]
            self.assertEqual(Fraction(*value_at(add_lines(*lines), (x, 1))), sum(values))
            self.assertEqual(Fraction(*value_at(greater_line(*lines), (x, 1))), max(values))
        self.assertLess(time.monotonic() - begun, 30)


if __name__ == "__main__":
    unittest.main()
