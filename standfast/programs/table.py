"""Conditions as a table of integers that tells some variables by the others.

The variables are the unknowns, and for each condition its slack: what its sum lacks to its bound,
multiplied by the factor that makes the condition's numbers integers. The slack of a condition has the
condition's index as its label. An unknown k has the label -1 - k, so that labels of unknowns are the
least ones, and those of later unknowns come first: where the least label is chosen, first unknowns stay 0.

Each row tells a variable by those of the columns: the divisor multiplied by this variable is the sum of
the variables of the columns, each multiplied by its number, plus the constant at the end of the row.
While the variables of the columns are 0, each variable of a row is its constant divided by the divisor.
"""

from standfast.whole import in_whole_numbers


class Table:
    """Rows, the labels of their variables (heads) and of the columns, and the divisor, which is above 0."""

    def __init__(self, conditions, unknowns):
        self.divisor = 1
        self.columns = [label_of(unknown) for unknown in range(unknowns)]
        self.heads = list(range(len(conditions)))
        self.rows = []
        self.factors = []
        self.exact = tuple([exactly for _, _, exactly in conditions])
        for numbers, bound, _ in conditions:
            integers, factor = in_whole_numbers([*numbers, bound])
            self.rows.append([-integer for integer in integers[:-1]] + [integers[-1]])
            self.factors.append(factor)

    def is_free(self, column):
        """Return True if the variable of a column may have any value."""
        return self.columns[column] < 0

    def is_closed(self, column):
        """Return True if the variable of a column can only be 0, as the slack of an equation."""
        label = self.columns[column]
        return label >= 0 and self.exact[label]

    def constant(self, at):
        """Return the constant of a row."""
        return self.rows[at][-1]

    def exchange(self, at, column):
        """Let the variables of a row and of a column change places."""
        self.rows, self.divisor = exchanged_rows(self.rows, at, column, self.divisor)
        self.heads[at], self.columns[column] = self.columns[column], self.heads[at]

    def keep_columns(self, kept):
        """Keep only these columns: the variables of all others are 0 for good."""
        self.columns = [self.columns[column] for column in kept]
        self.rows = [[row[column] for column in kept] + [row[-1]] for row in self.rows]

    def drop_row(self, at):
        """Leave out a row."""
        del self.rows[at]
        del self.heads[at]


def label_of(unknown):
    """Return the label of an unknown."""
    return -1 - unknown


def exchanged_rows(rows, at, column, divisor):
    """Return the rows and the divisor after the variables of a row and of a column have changed places."""
    chosen = rows[at]
    pivot = chosen[column]
    found = [exchanged(row, chosen, column, divisor) for row in rows]
    found[at] = [-number for number in chosen]
    found[at][column] = divisor
    if pivot < 0:
        found = [[-number for number in row] for row in found]
    return found, abs(pivot)


def exchanged(row, chosen, column, divisor):
    """Return what another row becomes when the chosen row is exchanged with a column."""
    # All numbers are determinants of the first table, so the old divisor divides them exactly.
    mine = row[column]
    pivot = chosen[column]
    if mine == 0:
        return [pivot * number // divisor for number in row]
    fresh = [(pivot * a - mine * b) // divisor for a, b in zip(row, chosen)]
    fresh[column] = mine
    return fresh
