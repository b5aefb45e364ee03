"""Tableaus: equations that tell some variables by all others, in whole numbers."""


class Tableau:
    """Rows that tell the basic variables by the free ones.

    A row of a basic variable says: the divisor times this variable, and each entry times
    the free variable of its column, are together the last entry. Rows of aims come behind
    these; an aim stands in the place of the basic variable. At the point of the tableau
    all free variables are 0.
    """

    def __init__(self, rows, aims, count):
        """Begins with the variables from 0 up to count as the free ones, and one more for each row."""
        self.rows = [list(row) for row in rows + aims]
        self.free = list(range(count))
        self.basic = list(range(count, count + len(rows)))
        self.divisor = 1

    def entries(self, row):
        """Returns the entries of a row without the last one."""
        return self.rows[row][:-1]

    def aim(self, place):
        """Returns the entries of an aim without the last one."""
        return self.entries(len(self.basic) + place)

    def levels(self):
        """Returns the last entries of the rows of the basic variables."""
        return [row[-1] for row in self.rows[:len(self.basic)]]

    def column(self, place):
        """Returns the entries of a column in the rows of the basic variables."""
        return [row[place] for row in self.rows[:len(self.basic)]]

    def swap(self, row, column):
        """Makes the basic variable of the row free, and the free one of the column basic."""
        turned = self.rows[row]
        pivot = turned[column]
        for place, other in enumerate(list(self.rows)):
            if place != row:
                self.rows[place] = self._without(other, turned, column)
        turned[column] = self.divisor
        self.divisor = pivot
        if pivot < 0:
            # The divisor stays above 0, so that entries have the signs of what they stand for.
            self.divisor = -pivot
            self.rows = [[-entry for entry in each] for each in self.rows]
        self.basic[row], self.free[column] = self.free[column], self.basic[row]

    def _without(self, other, turned, column):
        """Returns the other row with the variable of the column told by the row that is turned.

        All entries are minors of the first tableau, so nothing is lost by the division.
        """
        pivot = turned[column]
        factor = other[column]
        changed = [
            (pivot * entry - factor * by) // self.divisor
            for entry, by in zip(other, turned)
        ]
        changed[column] = -factor
        return changed
