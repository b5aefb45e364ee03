"""Programs: points from 0 on that keep bounds, and the greatest worth of them."""

from surehedge.numbers import ZERO, compare, dot, times, total
from surehedge.simplex import solved


def solution(program):
    """Returns ("best", point, multipliers), ("none", multipliers) or ("endless", point, way)."""
    rows, bounds, objective = program
    return solved(rows, bounds, objective)


def is_solution(program, *, told):
    """Tells whether what is told is a solution of the program."""
    if told[0] == "best":
        return _is_point(program, told[1]) and _shows_best(program, told[1], told[2])
    if told[0] == "none":
        return _shows_none(program, told[1])
    return told[0] == "endless" and _is_point(program, told[1]) and _is_way(program, told[2])


def _is_point(program, point):
    rows, bounds, objective = program
    return _are_from_0(point, len(objective)) and _keeps(rows, bounds, point)


def _are_from_0(numbers, many):
    return len(numbers) == many and all([compare(each, ZERO) >= 0 for each in numbers])


def _keeps(rows, bounds, point):
    """Tells whether each row gives at most its bound."""
    return all([compare(dot(row, point), bound) <= 0 for row, bound in zip(rows, bounds)])


def _shows_best(program, point, multipliers):
    _, bounds, objective = program
    if not _mixes_to(program, multipliers, objective):
        return False
    return dot(bounds, multipliers) == dot(objective, point)


def _mixes_to(program, multipliers, least):
    """Tells whether these are multipliers with which the rows are mixed to at least these numbers."""
    rows = program[0]
    if not _are_from_0(multipliers, len(rows)):
        return False
    for place, each in enumerate(least):
        mixed = total([times(factor, row[place]) for factor, row in zip(multipliers, rows)])
        if compare(mixed, each) < 0:
            return False
    return True


def _shows_none(program, multipliers):
    _, bounds, objective = program
    if not _mixes_to(program, multipliers, [ZERO for _ in objective]):
        return False
    return compare(dot(bounds, multipliers), ZERO) < 0


def _is_way(program, way):
    rows, bounds, objective = program
    if not _are_from_0(way, len(objective)) or compare(dot(objective, way), ZERO) <= 0:
        return False
    return _keeps(rows, [ZERO for _ in bounds], way)
