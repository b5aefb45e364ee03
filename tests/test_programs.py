import copy
import random
import unittest
from fractions import Fraction

from surehedge.programs import is_solution, solution
from tests import makers, second
from tests.helpers import call_kept, check_new

BIG = 10 ** 30


def full(value):
    return (value, 1) if isinstance(value, int) else value


def numbers(*values):
    return [full(each) for each in values]


def program(rows, bounds, objective):
    return ([numbers(*row) for row in rows], numbers(*bounds), numbers(*objective))


def random_program(rng, rows, columns, kind, size=5, density=0.7):
    """A program that is likely of this kind."""
    def entry():
        return Fraction(rng.randint(-size, size), rng.choice([1, 1, 2])) if rng.random() < density else Fraction(0)

    table = [[entry() for _ in range(columns)] for _ in range(rows)]
    objective = [entry() for _ in range(columns)]
    if kind == "endless":
        way = [rng.choice([0, 0, 1, 2]) for _ in objective[1:]] + [1]
        for row in table:
            row[-1] -= max(0, sum(a * b for a, b in zip(row, way)))
        objective[-1] += max(0, 1 - sum(a * b for a, b in zip(objective, way)))
    point = [Fraction(rng.choice([0, 0, 1, 2, 3])) for _ in range(columns)]
    bounds = [sum(a * b for a, b in zip(row, point)) + rng.choice([0, 0, 1, 2]) for row in table]
    if kind != "endless":
        parts = [rng.choice([0, 0, 1, 2]) for _ in table]
        objective = [sum(p * row[k] for p, row in zip(parts, table)) - rng.choice([0, 1]) for k in range(columns)]
    if kind == "none":
        bounds = [bound - rng.randint(0, 3 * size) for bound in bounds]
    return (
        [[second.number_of(each) for each in row] for row in table],
        [second.number_of(Fraction(each)) for each in bounds],
        [second.number_of(Fraction(each)) for each in objective],
    )


class Solutions(unittest.TestCase):
    def right(self, word, given, worth=None):
        told = check_new(self, solution, given)
        self.assertEqual(told[0], word)
        self.assertEqual(len(told), 2 if word == "none" else 3)
        self.assertTrue(second.is_program_solution(given, told), told)
        self.assertIs(call_kept(self, is_solution, given, told=told), True)
        if worth is not None:
            self.assertEqual(second.product_of(given[2], told[1]), Fraction(*full(worth)))
        return told

    def test_each_kind(self):
        self.right("best", program([[1, 1], [1, 0]], [4, 3], [2, 1]), 7)
        self.right("none", program([[1, 1], [-1, 0]], [4, -5], [2, 1]))
        self.right("endless", program([[1, -1], [1, 0]], [4, 3], [2, 1]))
        self.right("best", program([[1]], [5], [1]), 5)
        self.right("best", program([[1]], [5], [-1]), 0)
        self.right("none", program([[1]], [-1], [1]))
        self.right("none", program([[1]], [(-1, BIG)], [-1]))
        self.right("endless", program([[-1]], [5], [1]))
        self.right("endless", program([[-1]], [-5], [1]))

    def test_no_rows(self):
        for objective, word in (((0,), "best"), ((-1,), "best"), ((1,), "endless"), ((-1, 0, -2), "best"), ((-1, (1, BIG)), "endless")):
            self.right(word, program([], [], objective), 0 if word == "best" else None)

    def test_rows_of_nothing_but_0(self):
        for bound, words in ((-1, ("none", "none")), (0, ("best", "endless")), (1, ("best", "endless"))):
            self.right(words[0], program([[0, 0]], [bound], [0, 0]))
            self.right(words[1], program([[0, 0]], [bound], [1, 0]))
            self.right(words[0], program([[1, 2], [0, 0], [0, 1]], [3, bound, 2], [1, 1]))
        self.right("best", program([[0]] * 60, [0] * 60, [-1]), 0)

    def test_an_objective_of_nothing_but_0(self):
        self.right("best", program([[1, 1], [-1, -1]], [4, -4], [0, 0]), 0)
        self.right("none", program([[1, 1], [-1, -1]], [4, -5], [0, 0]))
        self.right("best", program([[-1, 0]], [-7], [0, 0]), 0)

    def test_bounds_below_0(self):
        self.right("best", program([[-1, -1], [1, 0], [0, 1]], [-3, 2, 2], [-1, -2]), -4)
        self.right("best", program([[-1, -1], [1, 0], [0, 1]], [-3, 2, 2], [1, 1]), 4)
        self.right("best", program([[-1, 1], [1, -1]], [-1, 1], [-1, 0]), -1)
        self.right("endless", program([[-1, 1], [1, -1]], [-1, 1], [1, 1]))
        self.right("none", program([[-1, 1], [1, -1]], [-1, (1, 2)], [1, 1]))

    def test_several_best_points(self):
        self.right("best", program([[1, 1], [1, 0], [0, 1]], [4, 3, 3], [1, 1]), 4)
        self.right("best", program([[2, 2], [1, 1], [3, 3]], [8, 4, 12], [5, 5]), 20)
        self.right("best", program([[1, 1, 1]], [1], [1, 1, 1]), 1)

    def test_rows_that_follow_from_others(self):
        self.right("best", program([[1, 1], [2, 2], [1, 0], [1, 0], [3, 1]], [4, 8, 3, 3, 10], [2, 1]), 7)
        self.right("best", program([[1, 0], [0, 1], [1, 1]], [1, 1, 2], [1, 1]), 2)
        self.right("best", program([[1, -1], [-1, 1], [2, -2], [0, 1]], [0, 0, 0, 5], [1, 1]), 10)

    def test_programs_that_make_the_plain_method_go_in_a_circle(self):
        # The example of Beale, and that of Marshall and Suurballe.
        self.right("best", program(
            [[(1, 4), -60, (-1, 25), 9], [(1, 2), -90, (-1, 50), 3], [0, 0, 1, 0]], [0, 0, 1], [(3, 4), -150, (1, 50), -6],
        ), (1, 20))
        self.right("best", program(
            [[(1, 2), (-11, 2), (-5, 2), 9], [(1, 2), (-3, 2), (-1, 2), 1], [1, 0, 0, 0]], [0, 0, 1], [10, -57, -9, -24],
        ), 1)

    def test_programs_with_a_long_way_round(self):
        # The cubes of Klee and Minty, in three forms.
        for many in (3, 8, 30):
            rows = [[2 ** (i - j + 1) if j < i else int(i == j) for j in range(many)] for i in range(many)]
            objective = [2 ** (many - 1 - j) for j in range(many)]
            self.right("best", program(rows, [5 ** (i + 1) for i in range(many)], objective), 5 ** many)
            rows = [[2 * 10 ** (i - j) if j < i else int(i == j) for j in range(many)] for i in range(many)]
            objective = [10 ** (many - 1 - j) for j in range(many)]
            self.right("best", program(rows, [100 ** i for i in range(many)], objective), 100 ** (many - 1))
            turned = [row[::-1] for row in rows[::-1]]
            self.right("best", program(turned, [100 ** i for i in range(many)][::-1], objective[::-1]), 100 ** (many - 1))

    def test_numbers_of_any_size(self):
        self.right("best", program([[(1, BIG), BIG]], [1], [1, 1]), BIG)
        self.right("none", program([[(-1, BIG)], [1]], [-1, BIG - 1], [1]))
        self.right("best", program([[(-1, BIG)], [1]], [-1, BIG], [-1]), -BIG)
        self.right("endless", program([[(-1, BIG), (1, BIG)]], [(-1, BIG)], [(1, BIG), -1]))

    def test_random_programs(self):
        rng = random.Random(1)
        words = []
        for _ in range(300):
            kind = rng.choice(["best", "none", "endless"])
            given = random_program(rng, rng.randint(0, 8), rng.randint(1, 6), kind)
            words.append(solution(given)[0])
            self.right(words[-1], given)
        for word in ("best", "none", "endless"):
            self.assertGreater(words.count(word), 40)

    def test_thirty_variables_and_sixty_rows(self):
        rng = random.Random(2)
        words = []
        for density in (0.1, 0.5, 1):
            for kind in ("best", "none", "endless"):
                for size in (1, 5, 10 ** 12):
                    given = random_program(rng, 60, 30, kind, size, density)
                    told = solution(given)
                    self.assertTrue(second.is_program_solution(given, told))
                    words.append(told[0])
        for word in ("best", "none", "endless"):
            self.assertIn(word, words)

    def test_long_numbers(self):
        rng = random.Random(3)
        for rows, columns in ((5, 5), (12, 8), (8, 12)):
            for _ in range(4):
                given = (
                    [[makers.wide(rng) for _ in range(columns)] for _ in range(rows)],
                    [makers.wide(rng) for _ in range(rows)],
                    [makers.wide(rng) for _ in range(columns)],
                )
                self.right(solution(given)[0], given)

    def test_equal_worth_of_all_best_points(self):
        rng = random.Random(4)
        done = 0
        while done < 40:
            rows, bounds, objective = random_program(rng, 7, 4, "best")
            told = solution((rows, bounds, objective))
            if told[0] == "best":
                order = rng.sample(range(7), 7)
                places = rng.sample(range(4), 4)
                turned = (
                    [[rows[k][place] for place in places] for k in order],
                    [bounds[k] for k in order],
                    [objective[place] for place in places],
                )
                self.right("best", turned, second.number_of(second.product_of(objective, told[1])))
                done += 1


class IsSolution(unittest.TestCase):
    def told(self, right, given, *told):
        self.assertIs(call_kept(self, is_solution, given, told=told), right)

    def test_the_examples(self):
        given = program([[1, 1], [1, 0]], [4, 3], [2, 1])
        self.told(True, given, "best", numbers(3, 1), numbers(1, 1))
        self.told(False, given, "best", numbers(3, 0), numbers(1, 1))

    def test_best(self):
        given = program([[1, 1], [1, 0]], [4, 3], [2, 1])
        good = (numbers(3, 1), numbers(1, 1))
        for point in ((), (3,), (3, 1, 0), (4, 0), (3, 2), (2, 2), (4, -1), (3, (BIG - 1, BIG)), (3, (BIG + 1, BIG)), (0, 7)):
            self.told(False, given, "best", numbers(*point), good[1])
        for multipliers in ((), (1,), (1, 1, 0), (1, 1, 1), (2, 0), (0, 2), (1, 2), (2, 1), (4, -3), (1, (BIG - 1, BIG))):
            self.told(False, given, "best", good[0], numbers(*multipliers))
        self.told(False, given, "none", good[1])
        self.told(False, given, "endless", *good)
        self.told(False, given, "endless", good[0], good[0])

    def test_a_point_below_0(self):
        given = program([[1, 1]], [0], [1, 1])
        self.told(True, given, "best", numbers(0, 0), numbers(1))
        self.told(False, given, "best", numbers(1, -1), numbers(1))
        self.told(False, given, "best", numbers(-1, 1), numbers(1))

    def test_multipliers_below_0(self):
        given = program([[1], [1], [2]], [1, 1, 2], [1])
        self.told(True, given, "best", numbers(1), numbers(0, 1, 0))
        self.told(True, given, "best", numbers(1), numbers(0, 0, (1, 2)))
        self.told(False, given, "best", numbers(1), numbers(-1, 0, 1))
        self.told(False, given, "best", numbers(1), numbers(1, -2, 1))

    def test_several_right_solutions(self):
        given = program([[1, 1], [2, 2]], [4, 8], [1, 1])
        for point in ((4, 0), (0, 4), ((1, BIG), (4 * BIG - 1, BIG))):
            for multipliers in ((1, 0), (0, (1, 2)), ((1, BIG), (BIG - 1, 2 * BIG))):
                multipliers = [second.number_of(Fraction(*full(each))) for each in multipliers]
                self.told(True, given, "best", numbers(*point), multipliers)

    def test_a_mix_above_the_objective(self):
        given = program([[1, 3]], [4], [1, 2])
        self.told(True, given, "best", numbers(4, 0), numbers(1))
        self.told(False, given, "best", numbers(4, 0), numbers((2, 3)))
        self.told(False, given, "best", numbers(0, (4, 3)), numbers((2, 3)))

    def test_none(self):
        given = program([[1, 1], [-1, 0]], [4, -5], [2, 1])
        self.told(True, given, "none", numbers(1, 1))
        self.told(True, given, "none", numbers((1, BIG), (1, BIG)))
        self.told(True, given, "none", numbers(BIG + 1, BIG))
        for multipliers in ((), (1,), (1, 1, 0), (0, 0), (0, 1), (1, 0), (5, 4), (1, 2), (-1, -1), (2, 1), ((5, 4), 1)):
            self.told(False, given, "none", numbers(*multipliers))
        self.told(False, given, "best", numbers(5, 0), numbers(1, 1))
        self.told(False, given, "endless", numbers(5, 0), numbers(1, 1))

    def test_none_with_multipliers_below_0(self):
        given = program([[1], [1]], [4, 5], [1])
        self.told(False, given, "none", numbers(1, -1))
        self.told(False, given, "none", numbers(-1, 0))
        self.told(False, program([], [], [1]), "none", [])

    def test_endless(self):
        given = program([[1, -1], [1, -2]], [4, 3], [2, 1])
        self.told(True, given, "endless", numbers(0, 0), numbers(0, 1))
        self.told(True, given, "endless", numbers(3, 0), numbers(1, 1))
        self.told(True, given, "endless", numbers(BIG, BIG), numbers((1, BIG), (1, BIG)))
        for point in ((), (0,), (0, 0, 0), (4, 0), (5, 0), (-1, 0), (0, -1)):
            self.told(False, given, "endless", numbers(*point), numbers(1, 1))
        for way in ((), (1,), (1, 1, 0), (0, 0), (1, 0), (2, 1), (-1, 3), (3, 1), (0, -1), (-1, 0)):
            self.told(False, given, "endless", numbers(0, 0), numbers(*way))
        self.told(False, given, "best", numbers(0, 0), numbers(0, 1))
        self.told(False, given, "none", numbers(0, 0))

    def test_ways_that_bring_nothing(self):
        given = program([[1, -1]], [4], [1, -1])
        self.told(False, given, "endless", numbers(0, 0), numbers(1, 1))
        self.told(False, given, "endless", numbers(0, 0), numbers(0, 1))
        given = program([[1, -1]], [4], [1, (1 - BIG, BIG)])
        self.told(True, given, "endless", numbers(0, 0), numbers(1, 1))
        self.told(False, program([[-1, 0]], [0], [-1, -1]), "endless", numbers(0, 0), numbers(-1, -1))

    def test_solutions_with_one_thing_changed(self):
        rng = random.Random(5)
        found = {True: 0, False: 0}
        for _ in range(400):
            given = random_program(rng, rng.randint(1, 4), rng.randint(1, 3), rng.choice(["best", "none", "endless"]))
            told = copy.deepcopy(solution(given))
            changed = rng.choice(told[1:])
            changed[rng.randrange(len(changed))] = makers.small(rng, 3)
            expected = second.is_program_solution(given, told)
            found[expected] += 1
            self.told(expected, given, *told)
        self.assertGreater(min(found.values()), 40)


if __name__ == "__main__":
    unittest.main()
