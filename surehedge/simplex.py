"""The simplex method: the greatest sum of products, over the points that keep all bounds."""

from surehedge.numbers import ZERO, divided, in_whole, number, times
from surehedge.tableau import Tableau

WORTH = 0
NEARNESS = 1


def solved(rows, bounds, objective):
    """Returns ("best", point, multipliers), ("none", multipliers) or ("endless", point, way).

    A point is a list of numbers from 0 on, for which each row gives at most its bound; it
    is best if no point has a greater sum of products with the objective.
    """
    wholes, scales = _in_wholes(rows, bounds)
    aim, scale = in_whole(objective)
    aims = [[-each for each in aim] + [0], [1 for _ in aim] + [0]]
    table = Tableau(wholes, aims, len(aim))
    row = _row_without_point(table)
    if row is not None:
        return ("none", _multipliers_of_row(table, row, scales))
    column = _endless_column(table)
    if column is not None:
        return ("endless", _point(table), _way(table, column))
    multipliers = _multipliers(table, table.aim(WORTH), scales)
    return ("best", _point(table), [divided(each, scale) for each in multipliers])


def _in_wholes(rows, bounds):
    """Returns the rows with their bounds behind, in whole numbers, and by what each one was multiplied."""
    wholes = []
    scales = []
    for row, bound in zip(rows, bounds):
        whole, scale = in_whole(row + [bound])
        wholes.append(whole)
        scales.append(scale)
    return (wholes, scales)


def _row_without_point(table):
    """Goes to a point that keeps all bounds; returns None, or a row that no point keeps.

    This is the dual method for the aim of a small sum, which is best at the beginning.
    """
    while True:
        levels = table.levels()
        lines = [[-entry for entry in table.entries(place)] for place in range(len(levels))]
        found = _swap_ahead(levels, table.aim(NEARNESS), lines, (table.basic, table.free))
        if found is None:
            return None
        row, column = found
        if column is None:
            return row
        table.swap(row, column)


def _endless_column(table):
    """Goes to a point of the greatest worth; returns None, or a column along which worth has no end."""
    while True:
        worth = table.aim(WORTH)
        lines = [table.column(place) for place in range(len(worth))]
        found = _swap_ahead(worth, table.levels(), lines, (table.free, table.basic))
        if found is None:
            return None
        column, row = found
        if row is None:
            return column
        table.swap(row, column)


def _swap_ahead(costs, levels, lines, names):
    """Returns which line to go along and where in it to stop, or None if no cost is below 0.

    Where to stop is None if nothing stops the line. The line that brings most is gone
    along. Where none brings anything, that of the least name is: so there is no circle.
    """
    own, others = names
    best = None
    most = (0, 1)
    for place, cost in enumerate(costs):
        if cost < 0:
            stop = _stop(lines[place], levels, others)
            if stop is None:
                return (place, None)
            brought = (-cost * levels[stop], lines[place][stop])
            order = brought[0] * most[1] - most[0] * brought[1]
            if best is None or order > 0 or (order == 0 and own[place] < own[best[0]]):
                best = (place, stop)
                most = brought
    return best


def _stop(line, levels, others):
    """Returns the place at which the level is used up first, the one of the least name of several, or None."""
    stop = None
    for place, entry in enumerate(line):
        if entry > 0:
            if stop is None:
                stop = place
            order = levels[place] * line[stop] - levels[stop] * entry
            if order < 0 or (order == 0 and others[place] < others[stop]):
                stop = place
    return stop


def _point(table):
    """Returns the point of the tableau, without the variables of the rows."""
    point = [ZERO for _ in table.free]
    for name, level in zip(table.basic, table.levels()):
        if name < len(point):
            point[name] = number(level, table.divisor)
    return point


def _way(table, column):
    """Returns where a point goes if the free variable of the column grows by 1."""
    way = [ZERO for _ in table.free]
    for name, entry in zip(table.basic, table.column(column)):
        if name < len(way):
            way[name] = number(-entry, table.divisor)
    if table.free[column] < len(way):
        way[table.free[column]] = (1, 1)
    return way


def _multipliers(table, entries, scales):
    """Returns by what the rows were multiplied to make a row of these entries."""
    count = len(entries)
    multipliers = [ZERO for _ in scales]
    for name, entry in zip(table.free, entries):
        if name >= count:
            multipliers[name - count] = times(number(entry, table.divisor), scales[name - count])
    return multipliers


def _multipliers_of_row(table, row, scales):
    multipliers = _multipliers(table, table.entries(row), scales)
    name = table.basic[row] - len(table.free)
    if name >= 0:
        multipliers[name] = scales[name]
    return multipliers
