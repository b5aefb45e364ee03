import itertools
import unittest
from fractions import Fraction

from surehedge import numbers
from surehedge.numbers import compare, divided, dot, is_number, is_short, minus, number, plus, times, total
from tests.helpers import call_kept

BIG = 10 ** 23 + 7
SAMPLES = [
    (0, 1),
    (1, 1),
    (-1, 1),
    (1, 2),
    (-1, 2),
    (2, 3),
    (-7, 3),
    (10 ** 12 - 1, 10 ** 12 - 11),
    (BIG, 10 ** 24 - 1),
    (-BIG, 10 ** 23),
    (10 ** 24 + 1, 1),
]


def fraction(value):
    return Fraction(value[0], value[1])


def pair(value):
    return (value.numerator, value.denominator)


class Form(unittest.TestCase):
    def test_numbers(self):
        for value in SAMPLES + [(10 ** 12, 1), (1, 10 ** 12), (-3, 2)]:
            self.assertIs(is_number(value), True, value)

    def test_not_numbers(self):
        wrong = [
            (2, 4), (0, 2), (-2, 2), (10 ** 24, 10 ** 23), (6, 3), (0, 5), (-4, 6),
            (1, 0), (0, 0), (1, -1), (-1, -2), (0, -1), (3, -2),
            [1, 2], (), (1,), (1, 2, 3), (0, 1, 1),
            (True, 1), (1, True), (False, 1), (True, True), (0, True),
            ("1", 1), (1, "2"), ("1", "2"), "12", "1/2", b"12", "",
            None, (None, 1), (1, None), 1, 0, 1.5, True, False,
            (1.0, 1), (1, 2.0), (1.5, 1), ((1, 2), 1), (1, (1, 2)), ((1, 1), (1, 1)), [(1, 1)], ([1], 1),
            {1: 2}, {1, 2}, object(), int, len, (set(), {}), float("nan"), (float("nan"), 1),
        ]
        for value in wrong:
            self.assertIs(is_number(value), False, value)
            self.assertIs(is_short(value), False, value)

    def test_short_on_both_sides_of_the_bound(self):
        most = 10 ** 12 - 1
        for value in [(most, 1), (-most, 1), (1, most), (-1, most), (0, 1), (most, most - 1), (-most, most - 1)]:
            self.assertIs(is_short(value), True, value)
        for value in [(most + 1, 1), (-most - 1, 1), (1, most + 1), (-1, most + 1), (most + 2, most + 1), (BIG, 1)]:
            self.assertIs(is_number(value), True, value)
            self.assertIs(is_short(value), False, value)

    def test_number(self):
        self.assertEqual(number(6, -4), (-3, 2))
        self.assertEqual(number(0, 5), (0, 1))
        self.assertEqual(number(0, -5), (0, 1))
        self.assertEqual(number(-6, -4), (3, 2))
        self.assertEqual(number(-6, 4), (-3, 2))
        self.assertEqual(number(7, 1), (7, 1))
        self.assertEqual(number(7, -1), (-7, 1))
        self.assertEqual(number(3 * BIG, -6 * BIG), (-1, 2))
        for n, d in itertools.product(range(-12, 13), range(-12, 13)):
            if d != 0:
                self.assertEqual(number(n, d), pair(Fraction(n, d)))
                self.assertTrue(is_number(number(n, d)))

    def test_number_of_any_size(self):
        n = 2 ** 200 * 3 ** 50
        d = -(2 ** 100) * 5 ** 90
        self.assertEqual(number(n, d), pair(Fraction(n, d)))


class Reckoning(unittest.TestCase):
    def test_two_numbers(self):
        for a, b in itertools.product(SAMPLES, SAMPLES):
            left = fraction(a)
            right = fraction(b)
            self.assertEqual(plus(a, b), pair(left + right))
            self.assertEqual(minus(a, b), pair(left - right))
            self.assertEqual(times(a, b), pair(left * right))
            if b != (0, 1):
                self.assertEqual(divided(a, b), pair(left / right))

    def test_results_are_numbers(self):
        for a, b in itertools.product(SAMPLES, SAMPLES):
            self.assertTrue(is_number(plus(a, b)))
            self.assertTrue(is_number(minus(a, b)))
            self.assertTrue(is_number(times(a, b)))

    def test_compare(self):
        for a, b in itertools.product(SAMPLES, SAMPLES):
            left = fraction(a)
            right = fraction(b)
            expected = (left > right) - (left < right)
            self.assertEqual(compare(a, b), expected)
            self.assertIs(compare(a, b).__class__, int)
        self.assertEqual(compare((1, 3), (1, 2)), -1)
        self.assertEqual(compare((-1, 3), (-1, 2)), 1)
        self.assertEqual(compare((-5, 7), (-5, 7)), 0)

    def test_plain_examples(self):
        self.assertEqual(plus((1, 2), (1, 3)), (5, 6))
        self.assertEqual(plus((1, 2), (-1, 2)), (0, 1))
        self.assertEqual(minus((1, 3), (1, 2)), (-1, 6))
        self.assertEqual(times((-2, 3), (3, 2)), (-1, 1))
        self.assertEqual(divided((1, 2), (-1, 4)), (-2, 1))
        self.assertEqual(divided((0, 1), (-1, 4)), (0, 1))

    def test_lists(self):
        self.assertEqual(total([]), (0, 1))
        self.assertEqual(dot([], []), (0, 1))
        self.assertEqual(call_kept(self, total, [(1, 2), (1, 3), (-5, 6)]), (0, 1))
        self.assertEqual(call_kept(self, dot, [(1, 2), (3, 1)], [(4, 1), (-1, 3)]), (1, 1))
        self.assertEqual(total(SAMPLES), pair(sum(map(fraction, SAMPLES))))
        other = SAMPLES[::-1]
        expected = sum(fraction(a) * fraction(b) for a, b in zip(SAMPLES, other))
        self.assertEqual(call_kept(self, dot, SAMPLES, other), pair(expected))
        self.assertEqual(total([(7, 3)]), (7, 3))

    def test_is_whole(self):
        self.assertIs(numbers.is_whole(5), True)
        for value in (True, False, 1.0, "1", None, (1, 1)):
            self.assertIs(numbers.is_whole(value), False)

    def test_other_signs(self):
        for value in SAMPLES:
            self.assertEqual(numbers.negated(value), minus((0, 1), value))
        self.assertEqual(call_kept(self, numbers.all_negated, SAMPLES), [numbers.negated(each) for each in SAMPLES])

    def test_in_whole(self):
        for given, wholes, scale in (
            ([], [], (1, 1)),
            ([(0, 1), (0, 1)], [0, 0], (1, 1)),
            ([(1, 2), (-1, 3)], [3, -2], (6, 1)),
            ([(4, 1), (0, 1), (-6, 1)], [2, 0, -3], (1, 2)),
            ([(4, 3), (2, 9)], [6, 1], (9, 2)),
            ([(-5, 7)], [-1], (7, 5)),
        ):
            self.assertEqual(call_kept(self, numbers.in_whole, given), (wholes, scale))


if __name__ == "__main__":
    unittest.main()
