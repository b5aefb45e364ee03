import random
import unittest

from surehedge.errors import BadNumber, BadSign, BadSize
from surehedge.systems import (
    check_objective,
    check_system,
    fulfills,
    judge_least,
    judge_system,
    least_of,
    refutes,
    solve_system,
    value_of,
)
from tests import makers, second
from tests.helpers import call_kept, check_new

BIG = 10 ** 30 + 1
BAD_NUMBERS = [
    (2, 4), (1, 0), (1, -1), [1, 1], (1,), (1, 1, 1), (True, 1), (1, True), "1", None, 5, 0, True,
    (10 ** 12, 1), (-(10 ** 12), 1), (1, 10 ** 12),
]
GOOD_NUMBERS = [(10 ** 12 - 1, 1), (1 - 10 ** 12, 1), (1, 10 ** 12 - 1), (0, 1), (-1, 3)]


def row(factors, sign, bound):
    """A row whose numbers may be told as whole numbers."""
    return ([full(each) for each in factors], sign, full(bound))


def full(value):
    return (value, 1) if isinstance(value, int) else value


def numbers(*values):
    return [full(each) for each in values]


def random_system(rng, strict=True):
    """A system with small or with long numbers, with rows of nothing but 0 and with repeated rows among its rows."""
    count = rng.randint(1, 4)
    price = makers.wide if rng.random() < 0.2 else makers.small
    rows = []
    for _ in range(rng.randint(0, 12)):
        factors = [price(rng) if rng.random() < 0.8 else (0, 1) for _ in range(count)]
        if rng.random() < 0.1:
            factors = [(0, 1)] * count
        bound = price(rng) if rng.random() < 0.7 else (0, 1)
        rows.append((factors, rng.choice(["=", "<=", "<=", "<", "<"] if strict else ["=", "<=", "<="]), bound))
        if rng.random() < 0.1 and len(rows) < 12:
            rows.append(rng.choice(rows))
    return count, rows[:12]


class Checks(unittest.TestCase):
    def refused(self, error, count, rows):
        with self.assertRaises(error) as caught:
            call_kept(self, check_system, count, rows)
        self.assertIs(caught.exception.__class__, error)

    def passed(self, count, rows):
        self.assertIsNone(call_kept(self, check_system, count, rows))

    def test_good_systems(self):
        for count in (1, 2, 3, 4):
            for many in (0, 1, 11, 12):
                for sign in ("=", "<=", "<"):
                    self.passed(count, [row([0] * count, sign, 1)] * many)

    def test_count(self):
        for count in (0, 5, -1, 10 ** 30, True, False, None, "1", 1.0, (1, 1), [1]):
            self.refused(BadSize, count, [])
        self.refused(BadSize, True, [row([1], "<=", 1)])
        self.refused(BadSize, False, [])

    def test_many_rows(self):
        for many in (13, 14, 40):
            self.refused(BadSize, 1, [row([1], "<=", 1)] * many)
            self.refused(BadSize, 1, [row([1, 2], "?", 1)] * many)

    def test_factors(self):
        for count in (1, 2, 3, 4):
            for many in range(6):
                if many != count:
                    self.refused(BadSize, count, [row([1] * many, "<=", 1)])
                    self.refused(BadSize, count, [row([1] * count, "<=", 1), row([1] * many, "<=", 1)])
        for bad in BAD_NUMBERS:
            self.refused(BadNumber, 2, [([bad, (1, 1)], "<=", (1, 1))])
            self.refused(BadNumber, 2, [([(1, 1), bad], "<=", (1, 1))])
        for good in GOOD_NUMBERS:
            self.passed(2, [([good, (1, 1)], "<", (1, 1)), ([(1, 1), good], "=", (1, 1))])

    def test_signs(self):
        for sign in ("", ">", ">=", "==", "!=", " <", "<= ", None, 1, True, ["="], ("=",), b"="):
            self.refused(BadSign, 1, [([(1, 1)], sign, (1, 1))])
            self.refused(BadSign, 1, [row([1], "<", 1), ([(1, 1)], sign, (1, 1))])

    def test_bounds(self):
        for bad in BAD_NUMBERS:
            self.refused(BadNumber, 1, [([(1, 1)], "<=", bad)])
            self.refused(BadNumber, 1, [row([1], "<", 1), ([(1, 1)], "=", bad)])
        for good in GOOD_NUMBERS:
            self.passed(1, [([(1, 1)], "<=", good)])

    def test_the_order_within_a_row(self):
        bad = (2, 4)
        self.refused(BadSize, 5, [row([1], "?", 1)] * 13)
        self.refused(BadSize, 2, [([bad], "?", bad)])
        self.refused(BadNumber, 2, [([(1, 1), bad], "?", bad)])
        self.refused(BadSign, 2, [([(1, 1), (1, 1)], "?", bad)])
        self.refused(BadNumber, 2, [([(1, 1), (1, 1)], "<", bad)])

    def test_the_order_of_rows(self):
        bad = (2, 4)
        size = ([], "<", (1, 1))
        number = ([bad], "<", (1, 1))
        sign = ([(1, 1)], "?", (1, 1))
        bound = ([(1, 1)], "<", bad)
        for first, error in ((size, BadSize), (number, BadNumber), (sign, BadSign), (bound, BadNumber)):
            for other in (size, number, sign, bound):
                self.refused(error, 1, [first, other])
                self.refused(error, 1, [row([1], "<", 1), first, other])

    def test_objectives(self):
        rows = [row([1, 2], "<=", 3), row([1, 2], "=", 3)]
        self.assertIsNone(call_kept(self, check_objective, 2, numbers(0, 0), rows))
        self.assertIsNone(call_kept(self, check_objective, 1, numbers(5), []))
        for good in GOOD_NUMBERS:
            self.assertIsNone(check_objective(2, [good, good], rows))

    def refused_objective(self, error, count, objective, rows):
        with self.assertRaises(error) as caught:
            call_kept(self, check_objective, count, objective, rows)
        self.assertIs(caught.exception.__class__, error)

    def test_wrong_objectives(self):
        strict = [row([1, 2], "<=", 3), row([1, 2], "<", 3)]
        for many in (0, 1, 3, 4):
            self.refused_objective(BadSize, 2, numbers(*range(many)), [])
            self.refused_objective(BadSize, 2, [(2, 4)] * many, strict)
        for bad in BAD_NUMBERS:
            for objective in ([bad, (1, 1)], [(1, 1), bad]):
                self.refused_objective(BadNumber, 2, objective, [])
                self.refused_objective(BadNumber, 2, objective, strict)
        self.refused_objective(BadSign, 2, numbers(1, 1), strict)
        self.refused_objective(BadSign, 2, numbers(0, 0), strict[::-1])


class Solutions(unittest.TestCase):
    def test_values(self):
        self.assertEqual(value_of(numbers(1, 2), numbers(3, (1, 2))), (4, 1))
        self.assertEqual(value_of([(1, 3)], [(BIG, 1)]), (BIG, 3) if BIG % 3 else (BIG // 3, 1))
        self.assertEqual(call_kept(self, value_of, numbers(0, 0, 0), numbers(1, 2, 3)), (0, 1))

    def test_each_sign_below_at_and_above_the_bound(self):
        expected = {"=": (False, True, False), "<=": (True, True, False), "<": (True, False, False)}
        for sign, told in expected.items():
            for value, right in zip(((2, 1), (5, 2), (3, 1)), told):
                rows = [row([2, -1], sign, (5, 2))]
                # The value of the row is twice the first number less the second one.
                given = [(value[0], value[1] * 2) if value[0] % 2 else (value[0] // 2, value[1]), (0, 1)]
                self.assertIs(call_kept(self, fulfills, rows, given), right)

    def test_every_row_counts(self):
        rows = [row([1, 0], "<=", 1), row([0, 1], "<", 1), row([1, 1], "=", 1)]
        self.assertIs(fulfills(rows, numbers(1, 0)), True)
        self.assertIs(fulfills(rows, numbers(2, -1)), False)
        self.assertIs(fulfills(rows, numbers(0, 1)), False)
        self.assertIs(fulfills(rows, numbers(0, 0)), False)
        self.assertIs(fulfills([], numbers(0, 0)), True)

    def test_numbers_of_any_size(self):
        self.assertIs(fulfills([row([1], "<", 1)], [(BIG - 1, BIG)]), True)
        self.assertIs(fulfills([row([1], "<", 1)], [(BIG + 1, BIG)]), False)
        self.assertIs(fulfills([row([1], "=", 1)], [(BIG - 1, BIG)]), False)

    def test_random_lists(self):
        rng = random.Random(3)
        for _ in range(300):
            count, rows = random_system(rng)
            given = [makers.small(rng) for _ in range(count)]
            self.assertIs(fulfills(rows, given), second.is_solution(count, rows, given))


class Refuting(unittest.TestCase):
    def told(self, right, rows, multipliers, count=1):
        self.assertIs(call_kept(self, refutes, count, rows, multipliers), right)

    def test_sum_below_0(self):
        rows = [row([1], "<=", 2), row([-1], "<=", -3)]
        self.told(True, rows, numbers(1, 1))
        self.told(True, rows, numbers((1, 7), (1, 7)))
        self.told(True, rows, numbers(BIG, BIG))
        self.told(False, rows, numbers(1, 2))
        self.told(False, rows, numbers(0, 0))

    def test_sum_of_0(self):
        for signs, right in (("<=", "<"), True), (("<", "<="), True), (("<", "<"), True), (("<=", "<="), False):
            self.told(right, [row([1], signs[0], 2), row([-1], signs[1], -2)], numbers(1, 1))
        self.told(False, [row([1], "<=", 2), row([-1], "=", -2)], numbers(1, 1))

    def test_sum_of_0_and_a_strict_row_that_is_not_used(self):
        rows = [row([1], "<=", 2), row([-1], "<=", -2), row([1], "<", 2)]
        self.told(False, rows, numbers(1, 1, 0))
        self.told(False, rows, numbers(0, 0, 0))
        self.told(True, rows, numbers(0, 1, 1))

    def test_sum_above_0(self):
        self.told(False, [row([1], "<", 2), row([-1], "<", -1)], numbers(1, 1))
        self.told(False, [row([0], "=", -1)], numbers(-1))

    def test_multipliers_below_0(self):
        self.told(True, [row([1], "=", 2), row([1], "=", 3)], numbers(1, -1))
        self.told(False, [row([1], "<=", 2), row([1], "=", 3)], numbers(-1, 1))
        self.told(True, [row([1], "<=", 2), row([1], "=", 3)], numbers(1, -1))
        for sign, right in (("=", True), ("<=", False), ("<", False)):
            self.told(right, [row([0], sign, 1)], numbers(-1))
            self.told(right, [row([1], "=", 1), row([1], sign, 2)], numbers(1, -1))
        self.told(False, [row([1], "=", 1), row([1], "=", 2)], numbers(-1, 1))

    def test_factors_that_do_not_vanish(self):
        rows = [row([1, 1], "<=", -1), row([-1, 0], "<=", 0), row([0, -1], "<=", 0)]
        self.told(True, rows, numbers(1, 1, 1), 2)
        self.told(False, rows, numbers(1, 1, 0), 2)
        self.told(False, rows, numbers(1, 0, 1), 2)
        self.told(False, rows, numbers(2, 1, 1), 2)

    def test_lengths(self):
        rows = [row([1], "<=", 2), row([-1], "<=", -3)]
        for many in (0, 1, 3, 4):
            self.told(False, rows, numbers(*[1] * many))
        self.told(False, [row([0], "<=", -1)], [])
        self.told(True, [row([0], "<=", -1)], numbers(1))
        self.told(False, [row([0], "<=", -1)], numbers(1, 0))

    def test_the_system_without_rows(self):
        for count in (1, 4):
            self.told(False, [], [], count)
            self.told(False, [], numbers(1), count)

    def test_random_multipliers(self):
        rng = random.Random(4)
        right = 0
        for _ in range(400):
            count, rows = random_system(rng)
            given = [makers.small(rng, 2) for _ in rows]
            answer = solve_system(count, rows)
            if answer[0] == "multipliers" and rng.random() < 0.7:
                given = answer[1]
            expected = second.refutes(count, rows, given)
            right += expected
            self.told(expected, rows, given, count)
        self.assertGreater(right, 50)


class Answers(unittest.TestCase):
    def right(self, word, count, rows):
        check_system(count, rows)
        answer = check_new(self, solve_system, count, rows)
        self.assertEqual(answer[0], word)
        self.assertTrue(second.is_right(count, rows, answer), answer)
        self.assertIs(call_kept(self, judge_system, count, rows, answer), True)

    def test_the_example(self):
        rows = [([(1, 1)], "<=", (2, 1)), ([(-1, 1)], "<", (-2, 1))]
        self.assertEqual(solve_system(1, rows), ("multipliers", [(1, 1), (1, 1)]))

    def test_no_rows(self):
        for count in (1, 2, 3, 4):
            self.right("solution", count, [])

    def test_only_a_strict_row_hinders(self):
        for signs, word in (("<=", "<="), "solution"), (("<", "<="), "multipliers"), (("<", "<"), "multipliers"):
            self.right(word, 1, [row([1], signs[0], 2), row([-1], signs[1], -2)])
            self.right(word, 2, [row([1, 2], signs[0], 2), row([-2, -4], signs[1], -4)])
        self.right("multipliers", 2, [row([1, 0], "=", 1), row([0, 1], "=", 1), row([1, 1], "<", 2)])
        self.right("solution", 2, [row([1, 0], "=", 1), row([0, 1], "=", 1), row([1, 1], "<", (2 * 10 ** 11 + 1, 10 ** 11))])

    def test_rows_of_nothing_but_0(self):
        for sign, words in {
            "=": ("multipliers", "solution", "multipliers"),
            "<=": ("multipliers", "solution", "solution"),
            "<": ("multipliers", "multipliers", "solution"),
        }.items():
            for bound, word in zip((-1, 0, 1), words):
                self.right(word, 1, [row([0], sign, bound)])
                self.right(word, 3, [row([1, 2, 3], "=", 4), row([0, 0, 0], sign, bound)])

    def test_equations(self):
        self.right("solution", 2, [row([1, 1], "=", 3), row([1, -1], "=", 1)])
        self.right("solution", 2, [row([1, 1], "=", 3), row([2, 2], "=", 6), row([1, -1], "=", 1)])
        self.right("multipliers", 2, [row([1, 1], "=", 3), row([2, 2], "=", 7)])
        self.right("multipliers", 2, [row([1, 1], "=", 3), row([1, 1], "=", 3), row([1, 1], "=", 2)])
        self.right("multipliers", 2, [row([1, 0], "=", 3), row([0, 1], "=", 3), row([1, 1], "=", 7)])
        self.right("solution", 4, [row([int(k == j) for j in range(4)], "=", (k - 2, 7)) for k in (0, 1, 3)])

    def test_solutions_below_0(self):
        self.right("solution", 1, [row([1], "<", -5)])
        self.right("solution", 2, [row([1, 0], "=", -5), row([0, 1], "<", -7), row([-1, 1], "<", -1)])
        self.right("solution", 1, [row([1], "<", (1 - 10 ** 12, 1)), row([1], "<=", (-1, 10 ** 12 - 1))])

    def test_twelve_rows(self):
        sides = [row([k, 5 - k, 1, -k], "<=", 1) for k in range(6)]
        self.right("solution", 4, sides + [row([-k, k - 5, -1, k], "<=", 0) for k in range(6)])
        self.right("multipliers", 4, sides + [row([-k, k - 5, -1, k], "<=", -2) for k in range(6)])
        self.right("multipliers", 4, sides + [row([-k, k - 5, -1, k], "<", -1) for k in range(6)])
        self.right("solution", 1, [row([1], "<", 1)] * 12)
        self.right("solution", 4, [row([1, 2, 3, 4], "=", 5)] * 12)

    def test_random_systems(self):
        rng = random.Random(1)
        words = []
        for _ in range(400):
            count, rows = random_system(rng)
            answer = solve_system(count, rows)
            words.append(answer[0])
            self.right(answer[0], count, rows)
        self.assertGreater(words.count("solution"), 80)
        self.assertGreater(words.count("multipliers"), 80)


class Least(unittest.TestCase):
    def right(self, word, count, objective, rows, value=None):
        check_system(count, rows)
        check_objective(count, objective, rows)
        answer = check_new(self, least_of, count, objective, rows)
        self.assertEqual(answer[0], word)
        self.assertTrue(second.is_right_for(count, objective, rows, answer), answer)
        self.assertIs(call_kept(self, judge_least, count, objective, rows, answer), True)
        if value is not None:
            self.assertEqual(answer[1], value)

    def test_the_example(self):
        answer = least_of(1, [(1, 1)], [([(-1, 1)], "<=", (-3, 2))])
        self.assertEqual(answer, ("least", (3, 2), [(3, 2)], [(1, 1)]))

    def test_each_kind(self):
        square = [row([1, 0], "<=", 1), row([-1, 0], "<=", 1), row([0, 1], "<=", 2), row([0, -1], "<=", 3)]
        self.right("least", 2, numbers(1, 1), square, (-4, 1))
        self.right("least", 2, numbers(-2, (1, 3)), square, (-3, 1))
        self.right("least", 2, numbers(0, 0), square, (0, 1))
        self.right("none", 2, numbers(1, 1), square + [row([1, 1], "<=", -5)])
        self.right("none", 2, numbers(0, 0), square + [row([1, 1], "=", -5)])
        self.right("falling", 2, numbers(1, 1), square[:3])
        self.right("least", 2, numbers(-1, -1), square[:3], (-3, 1))
        self.right("least", 2, numbers(-1, -1), square[:3] + [row([1, 2], "=", 0)], (-1, 2))

    def test_no_rows(self):
        for count in (1, 2, 3, 4):
            self.right("least", count, numbers(*[0] * count), [], (0, 1))
            for place in range(count):
                for factor in (1, -1, (1, 10 ** 12 - 1)):
                    objective = numbers(*[0] * count)
                    objective[place] = full(factor)
                    self.right("falling", count, objective, [])

    def test_an_objective_of_nothing_but_0(self):
        self.right("least", 1, numbers(0), [row([1], "=", 7)], (0, 1))
        self.right("least", 1, numbers(0), [row([1], "<=", -7)], (0, 1))
        self.right("none", 1, numbers(0), [row([1], "<=", -7), row([1], "=", 1)])
        self.right("none", 1, numbers(0), [row([0], "<=", -1)])

    def test_equations(self):
        rows = [row([1, 1, 1], "=", 6), row([1, -1, 0], "=", 0)]
        self.right("falling", 3, numbers(0, 0, 1), rows)
        self.right("least", 3, numbers(2, 2, 2), rows, (12, 1))
        self.right("least", 3, numbers(0, 0, 1), rows + [row([1, 0, 0], "<=", (1, 2))], (5, 1))
        self.right("none", 3, numbers(0, 0, 1), rows + [row([2, 0, 1], "=", 5)])

    def test_random_objectives(self):
        rng = random.Random(2)
        words = []
        for _ in range(400):
            count, rows = random_system(rng, strict=False)
            objective = [makers.small(rng) for _ in range(count)]
            if rows and rng.random() < 0.5:
                # A sum of rows with a least value, if there is a solution.
                many = [(rng.randint(0, 3), 1) for _ in rows]
                objective = [second.number_of(-each) for each in second.mix_of(count, rows, many)[0]]
            if any(abs(n) >= 10 ** 12 or d >= 10 ** 12 for n, d in objective):
                objective = [makers.wide(rng) for _ in range(count)]
            answer = least_of(count, objective, rows)
            words.append(answer[0])
            self.right(answer[0], count, objective, rows)
        for word in ("none", "falling", "least"):
            self.assertGreater(words.count(word), 50)


class Judging(unittest.TestCase):
    def told(self, right, rows, answer):
        self.assertIs(call_kept(self, judge_system, len(rows[0][0]), rows, answer), right)

    def test_answers_for_a_system(self):
        rows = [row([1, 1], "<=", 2), row([1, -1], "=", 0), row([-1, 0], "<", 0)]
        self.told(True, rows, ("solution", numbers(1, 1)))
        self.told(True, rows, ("solution", numbers((1, BIG), (1, BIG))))
        for given in ((0, 0), (1, 2), (2, 2), (-1, -1)):
            self.told(False, rows, ("solution", numbers(*given)))
        for given in ((), (1,), (1, 1, 0), (1, 1, 1, 1)):
            self.told(False, rows, ("solution", numbers(*given)))
        self.told(False, rows, ("multipliers", numbers(1, 1)))
        self.told(False, rows, ("multipliers", numbers(1, 1, 1)))
        self.told(False, rows, ("multipliers", []))

    def test_multipliers_for_a_system(self):
        rows = [row([1, 1], "<=", -2), row([1, -1], "=", 0), row([-1, 0], "<", 0)]
        self.told(True, rows, ("multipliers", numbers(1, 1, 2)))
        self.told(True, rows, ("multipliers", numbers((1, BIG), (1, BIG), (2, BIG))))
        for given in ((1, 1, 1), (0, 1, 2), (1, -1, 2), (-1, -1, -2), (0, 0, 0), (), (1, 1), (1, 1, 2, 0)):
            self.told(False, rows, ("multipliers", numbers(*given)))
        self.told(False, rows, ("solution", numbers(1, 1, 2)))
        self.told(False, rows, ("solution", numbers(-1, -1)))
        self.told(False, rows, ("solution", []))

    def test_answers_with_one_number_changed(self):
        rng = random.Random(6)
        told = {True: 0, False: 0}
        for _ in range(200):
            count, rows = random_system(rng)
            word, given = solve_system(count, rows)
            if given:
                place = rng.randrange(len(given))
                given[place] = makers.small(rng)
                expected = second.is_right(count, rows, (word, given))
                told[expected] += 1
                self.assertIs(judge_system(count, rows, (word, given)), expected)
                other = "solution" if word == "multipliers" else "multipliers"
                self.assertIs(judge_system(count, rows, (other, given)), second.is_right(count, rows, (other, given)))
        self.assertGreater(min(told.values()), 20)


class JudgingLeast(unittest.TestCase):
    def setUp(self):
        self.rows = [row([-1, 0], "<=", -1), row([0, -1], "<=", -2), row([1, -1], "=", 0)]
        self.objective = numbers(1, 2)

    def told(self, right, answer):
        self.assertIs(call_kept(self, judge_least, 2, self.objective, self.rows, answer), right)

    def test_least(self):
        self.told(True, ("least", (6, 1), numbers(2, 2), numbers(0, 3, -1)))
        self.told(False, ("least", (5, 1), numbers(2, 2), numbers(0, 3, -1)))
        self.told(False, ("least", (6, 1), numbers(2, 1), numbers(0, 3, -1)))
        self.told(False, ("least", (9, 1), numbers(3, 3), numbers(0, 3, -1)))
        self.told(False, ("least", (6, 1), numbers(3, 3), numbers(0, 3, -1)))
        self.told(False, ("least", (6, 1), numbers(4, 1), numbers(0, 3, -1)))
        self.told(False, ("least", (6, 1), numbers(2, 2), numbers(1, 2, 0)))
        self.told(False, ("least", (6, 1), numbers(2, 2), numbers(0, 3, 1)))
        self.told(False, ("least", (6, 1), numbers(2, 2), numbers(-1, 4, -2)))
        for many in (0, 1, 3):
            self.told(False, ("least", (6, 1), numbers(*[2] * many), numbers(0, 3, -1)))
        for given in ((), (0, 3), (0, 3, -1, 0)):
            self.told(False, ("least", (6, 1), numbers(2, 2), numbers(*given)))

    def test_multipliers_below_0_for_rows_that_must_not_have_them(self):
        self.rows = [row([1], "<=", 2), row([1], "<=", 2), row([-1], "<=", -2)]
        self.objective = numbers(1)
        self.assertIs(judge_least(1, self.objective, self.rows, ("least", (2, 1), numbers(2), numbers(0, 0, 1))), True)
        self.assertIs(judge_least(1, self.objective, self.rows, ("least", (2, 1), numbers(2), numbers(1, -1, 1))), False)
        self.assertIs(judge_least(1, self.objective, self.rows, ("least", (2, 1), numbers(2), numbers(-1, 0, 0))), False)

    def test_falling(self):
        self.objective = numbers(1, -2)
        self.told(True, ("falling", numbers(2, 2), numbers(1, 1)))
        self.told(True, ("falling", numbers(BIG, BIG), numbers((1, BIG), (1, BIG))))
        self.told(False, ("falling", numbers(2, 2), numbers(0, 0)))
        self.told(False, ("falling", numbers(2, 2), numbers(0, 1)))
        self.told(False, ("falling", numbers(2, 2), numbers(-1, -1)))
        self.told(False, ("falling", numbers(1, 1), numbers(1, 1)))
        self.told(False, ("falling", numbers(3, 2), numbers(1, 1)))
        for given in ((), (2,), (2, 2, 2)):
            self.told(False, ("falling", numbers(*given), numbers(1, 1)))
            self.told(False, ("falling", numbers(2, 2), numbers(*given)))
        self.objective = numbers(1, -1)
        self.told(False, ("falling", numbers(2, 2), numbers(1, 1)))

    def test_a_direction_that_breaks_a_row(self):
        self.rows = [row([1, 0], "<=", 5), row([0, 1], "=", 0)]
        self.objective = numbers(-1, 1)
        self.told(False, ("falling", numbers(0, 0), numbers(1, 0)))
        self.told(False, ("falling", numbers(0, 0), numbers(0, -1)))
        self.told(False, ("falling", numbers(-9, 0), numbers(-1, -2)))

    def test_none(self):
        self.rows = [row([1, 0], "<=", 1), row([-1, 0], "<=", -2), row([0, 1], "=", 0)]
        self.told(True, ("none", numbers(1, 1, 0)))
        self.told(True, ("none", numbers(BIG, BIG, 0)))
        for given in ((1, 1, 1), (1, 2, 0), (0, 0, 0), (-1, -1, 0), (), (1, 1), (1, 1, 0, 0)):
            self.told(False, ("none", numbers(*given)))
        self.told(False, ("least", (0, 1), numbers(1, 0), numbers(1, 1, 0)))
        self.told(False, ("falling", numbers(1, 0), numbers(0, -1)))

    def test_the_wrong_first_word(self):
        self.told(False, ("none", numbers(0, 3, -1)))
        self.told(False, ("falling", numbers(2, 2), numbers(2, 2)))

    def test_answers_with_one_thing_changed(self):
        rng = random.Random(8)
        told = {True: 0, False: 0}
        for _ in range(300):
            count, rows = random_system(rng, strict=False)
            objective = [makers.small(rng) for _ in range(count)]
            answer = list(least_of(count, objective, rows))
            lists = [each for each in answer if isinstance(each, list) and each]
            if answer[0] == "least" and rng.random() < 0.2:
                answer[1] = makers.small(rng)
            elif lists:
                given = rng.choice(lists)
                given[rng.randrange(len(given))] = makers.small(rng)
            expected = second.is_right_for(count, objective, rows, tuple(answer))
            told[expected] += 1
            self.assertIs(judge_least(count, objective, rows, tuple(answer)), expected)
        self.assertGreater(min(told.values()), 20)


if __name__ == "__main__":
    unittest.main()
