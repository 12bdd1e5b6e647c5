"""Pairs of numbers of at least 0 of which one is 0."""

from standfast.programs.table import exchanged_rows


class Complements:
    """For each pair a slack, which is told by all prices, and a price; of each pair one is to be 0.

    Each row tells the variable at its head by the others: the divisor multiplied by the variable is the sum of
    the others, each multiplied by its number, plus the constant at the end of the row. A pair is the head of its
    row and the other one of its column; those in priced have the price as the head.
    """

    def __init__(self, rows):
        self.rows = rows
        self.divisor = 1
        self.priced = {}

    def settle(self):
        """Exchange until no variable is below 0, and return True; or return False if that is not possible."""
        # Always to take the first pairs keeps the exchanges from going round in circles (the criss-cross method).
        at = self.first_below()
        while at is not None:
            if self.rows[at][at] != 0:
                self.exchange(at, at)
                self.change_head(at)
            else:
                other = self.first_raising(at)
                if other is None:
                    return False
                self.exchange(at, other)
                self.exchange(other, at)
                self.change_places(at, other)
            at = self.first_below()
        return True

    def first_below(self):
        """Return the first row whose variable is below 0, or None."""
        for at, row in enumerate(self.rows):
            if row[-1] < 0:
                return at
        return None

    def first_raising(self, at):
        """Return the first column that raises the variable of a row, or None."""
        for column in range(len(self.rows)):
            if self.rows[at][column] > 0:
                return column
        return None

    def exchange(self, at, column):
        """Let the variables of a row and of a column change places."""
        self.rows, self.divisor = exchanged_rows(self.rows, at, column, self.divisor)

    def change_head(self, at):
        """Note that the other one of a pair is the head of its row now."""
        if at in self.priced:
            del self.priced[at]
        else:
            self.priced[at] = True

    def change_places(self, first, second):
        """Bring two rows, whose heads are of one another's pairs, and their columns in order."""
        rows = list(self.rows)
        rows[first], rows[second] = rows[second], rows[first]
        for row in rows:
            row[first], row[second] = row[second], row[first]
        self.rows = rows
        self.change_head(first)
        self.change_head(second)

    def price(self, at):
        """Return the price of a pair, multiplied by the divisor."""
        return self.rows[at][-1] if at in self.priced else 0
