"""Systems: rows of factors with signs and bounds, their solutions, and what shows that there is none.

A row is a tuple (factors, sign, bound). Systems are solved as programs over numbers from
0 on: each variable is one such number less a shift that all variables share.
"""

from surehedge.errors import BadNumber, BadSign, BadSize
from surehedge.numbers import (
    ZERO,
    all_negated,
    check_shorts,
    compare,
    dot,
    is_short,
    is_whole,
    minus,
    negated,
    plus,
    times,
    total,
)
from surehedge.simplex import solved

SIGNS = ("=", "<=", "<")
MOST_VARIABLES = 4
MOST_ROWS = 12
ONE = (1, 1)


def check_system(count, rows):
    """Raises the first error that is due for the system, if there is one."""
    if not is_whole(count) or not 1 <= count <= MOST_VARIABLES:
        raise BadSize()
    if len(rows) > MOST_ROWS:
        raise BadSize()
    for factors, sign, bound in rows:
        check_shorts(factors, count)
        if sign not in SIGNS:
            raise BadSign()
        if not is_short(bound):
            raise BadNumber()


def check_objective(count, objective, rows):
    """Raises the first error that is due for the objective beside a system, if there is one."""
    check_shorts(objective, count)
    for _, sign, _ in rows:
        if sign == "<":
            raise BadSign()


def value_of(factors, numbers):
    """Returns the sum of each factor times the number at its place."""
    return dot(factors, numbers)


def fulfills(rows, numbers):
    """Tells whether the list of numbers, one for each variable, fulfills all rows."""
    for factors, sign, bound in rows:
        order = compare(value_of(factors, numbers), bound)
        if order > 0 or (sign == "=" and order < 0) or (sign == "<" and order == 0):
            return False
    return True


def refutes(count, rows, multipliers):
    """Tells whether the list of numbers is one of multipliers that refute the system."""
    if not _are_multipliers(rows, multipliers):
        return False
    if any([each != ZERO for each in _mix(count, rows, multipliers)]):
        return False
    order = compare(_bound_of_mix(rows, multipliers), ZERO)
    if order == 0:
        return any([row[1] == "<" and each != ZERO for row, each in zip(rows, multipliers)])
    return order < 0


def _are_multipliers(rows, numbers):
    if len(numbers) != len(rows):
        return False
    for row, each in zip(rows, numbers):
        if row[1] != "=" and compare(each, ZERO) < 0:
            return False
    return True


def _mix(count, rows, multipliers):
    """Returns the factors of the sum of all rows, each multiplied by its multiplier."""
    return [
        total([times(each, row[0][place]) for row, each in zip(rows, multipliers)])
        for place in range(count)
    ]


def _bound_of_mix(rows, multipliers):
    return dot([row[2] for row in rows], multipliers)


def solve_system(count, rows):
    """Returns ("solution", numbers), or ("multipliers", numbers) that refute the system.

    A gap is added to the strict rows and made as great as it can be, up to 1: where it
    cannot be above 0, the multipliers of the greatest gap refute the system.
    """
    sides, bounds = _as_program(count, rows)
    limit = [ZERO for _ in range(count + 1)] + [ONE]
    answer = solved(sides + [limit], bounds + [ONE], limit)
    if answer[0] == "best" and answer[1][-1] != ZERO:
        return ("solution", _shifted(count, answer[1]))
    return ("multipliers", _joined(rows, answer[-1]))


def _as_program(count, rows):
    """Returns the rows and bounds of a program over the variables, the shift and the gap.

    A row with the sign "=" becomes two.
    """
    sides = []
    bounds = []
    for factors, sign, bound in rows:
        shift = negated(total(factors))
        side = factors + [shift, ONE if sign == "<" else ZERO]
        sides.append(side)
        bounds.append(bound)
        if sign == "=":
            sides.append(all_negated(side))
            bounds.append(negated(bound))
    return (sides, bounds)


def _shifted(count, point):
    """Returns the numbers of the variables, less the shift that stands behind them."""
    return [minus(each, point[count]) for each in point[:count]]


def _joined(rows, multipliers):
    """Returns a multiplier for each row of the system from those of the rows of the program."""
    joined = []
    place = 0
    for _, sign, _ in rows:
        each = multipliers[place]
        place += 1
        if sign == "=":
            each = minus(each, multipliers[place])
            place += 1
        joined.append(each)
    return joined


def judge_system(count, rows, answer):
    """Tells whether the answer for the system is right."""
    word, numbers = answer
    if word == "solution":
        return _is_solution(count, rows, numbers)
    return word == "multipliers" and refutes(count, rows, numbers)


def _is_solution(count, rows, numbers):
    return len(numbers) == count and fulfills(rows, numbers)


def least_of(count, objective, rows):
    """Returns ("none", multipliers), ("falling", solution, direction) or ("least", value, solution, multipliers)."""
    sides, bounds = _as_program(count, rows)
    aim = all_negated(objective) + [total(objective), ZERO]
    answer = solved(sides, bounds, aim)
    if answer[0] == "none":
        return ("none", _joined(rows, answer[1]))
    solution = _shifted(count, answer[1])
    if answer[0] == "endless":
        return ("falling", solution, _shifted(count, answer[2]))
    return ("least", value_of(objective, solution), solution, _joined(rows, answer[2]))


def judge_least(count, objective, rows, answer):
    """Tells whether the answer for the objective is right."""
    word = answer[0]
    if word == "none":
        return refutes(count, rows, answer[1])
    if word == "falling":
        return _is_solution(count, rows, answer[1]) and _falls(count, objective, rows, answer[2])
    if word == "least":
        return _is_solution(count, rows, answer[2]) and _is_least(count, objective, rows, answer)
    return False


def _falls(count, objective, rows, direction):
    if len(direction) != count or compare(value_of(objective, direction), ZERO) >= 0:
        return False
    # Along a direction the bounds do not count: from any solution on, all rows stay fulfilled.
    return fulfills([(factors, sign, ZERO) for factors, sign, _ in rows], direction)


def _is_least(count, objective, rows, answer):
    _, value, solution, multipliers = answer
    if value_of(objective, solution) != value or not _are_multipliers(rows, multipliers):
        return False
    for factor, each in zip(objective, _mix(count, rows, multipliers)):
        if plus(factor, each) != ZERO:
            return False
    return plus(value, _bound_of_mix(rows, multipliers)) == ZERO
