"""Which forces are in balance with loads."""

from standfast.structure.grid import here
from standfast.whole import over_common


class Statics:
    """Forces in balance: those of the bound components follow from a load and from those of the loose ones.

    Bound components are the last ones possible, so that each depends on loose ones before it alone. For a load,
    and with x the forces of the loose components, the divisor times a bound force is what its row gives of the
    load, plus its ties times x. The gaps are rows that give 0 of each load that can be borne at all.
    """

    def __init__(self, grid, structure):
        self.grid = grid
        self.present = here(structure)
        self.places = len(structure.free)
        self.divisor = 1
        columns = {at: column for column, at in enumerate(self.present)}
        rows = self.first_rows(columns)
        used = {}
        for at in reversed(self.present):
            chosen = first_unused(rows, columns[at], used)
            if chosen is not None:
                rows = self.eliminated(rows, chosen, columns[at])
                used[chosen] = at
        if self.divisor < 0:
            rows = [[-number for number in row] for row in rows]
            self.divisor = -self.divisor
        self.bound = {used[place]: rows[place] for place in used}
        self.loose = [at for at in self.present if at not in self.bound]
        many = len(self.present)
        self.gaps = [row[many:] for place, row in enumerate(rows) if place not in used]
        self.gives = {at: self.bound[at][many:] for at in self.bound}
        self.ties = [self.ties_of(columns[at], at) for at in self.loose]

    def first_rows(self, columns):
        """Return for each free movement the numbers of the components, and a 1 among 0 for the movement itself."""
        many = len(self.present)
        rows = [[0] * (many + self.places) for _ in range(self.places)]
        for place in range(self.places):
            rows[place][many + place] = 1
        for at in self.present:
            for place, number in self.grid.rows[at]:
                rows[place][columns[at]] = number
        return rows

    def eliminated(self, rows, chosen, column):
        """Return the rows with a column eliminated from all but the chosen one, and set the divisor."""
        # All numbers are determinants of the first rows, so the old divisor divides them exactly.
        its = rows[chosen]
        pivot = its[column]
        found = []
        for place, row in enumerate(rows):
            mine = row[column]
            if place == chosen or (mine == 0 and pivot == self.divisor):
                found.append(row)
            elif mine == 0:
                found.append([pivot * a // self.divisor for a in row])
            else:
                found.append([(pivot * a - mine * b) // self.divisor for a, b in zip(row, its)])
        self.divisor = pivot
        return found

    def ties_of(self, column, loose):
        """Return what a loose force, once the divisor, adds to each force multiplied by the divisor."""
        ties = [0] * len(self.grid.rows)
        ties[loose] = self.divisor
        for at in self.bound:
            ties[at] = -self.bound[at][column]
        return ties

    def borne(self, force):
        """Return forces in balance with a row of forces, without loose ones, as integers and their divisor, or None."""
        amounts, by = over_common([amount for _, amount in force])
        pulls = [(place, amount * self.grid.grain) for (place, _), amount in zip(force, amounts)]
        for gap in self.gaps:
            if sum([gap[place] * amount for place, amount in pulls]) != 0:
                return None
        forces = [0] * len(self.grid.rows)
        for at in self.gives:
            row = self.gives[at]
            forces[at] = sum([row[place] * amount for place, amount in pulls])
        return forces, by * self.divisor


def first_unused(rows, column, used):
    """Return the first row that is not used and not 0 in a column, or None."""
    for place, row in enumerate(rows):
        if place not in used and row[column] != 0:
            return place
    return None
