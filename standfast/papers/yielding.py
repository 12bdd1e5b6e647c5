"""Papers that all yielding together ends."""

from standfast.copies import as_tuples
from standfast.elastic.enclosing import enclosure_of, greatest_misfit
from standfast.ratios import TWO, ZERO, at_most, greater_one, greatest_of, less, minus, over, ratio, times, total
from standfast.roots import MILLION, millionths_above
from standfast.structure.grid import Grid


class YieldPaper:
    """A pair for the base load, a pair for each load of each group, and a margin."""

    def __init__(self, base, pairs, margin):
        self.base = as_tuples(base)
        self.pairs = as_tuples(pairs)
        self.margin = as_tuples(margin)


class Answers:
    """The Enclosures of the loads of all groups, by the pairs for them."""

    def __init__(self, grid, structure, pairs):
        self.grid = grid
        self.structure = structure
        self.pairs = pairs
        self.known = {}

    def answer(self, group, index):
        """Return the Enclosure of a load and its pair."""
        if (group, index) not in self.known:
            load = self.structure.groups[group][index]
            pair = pair_at(self.pairs, group, index)
            self.known[(group, index)] = enclosure_of(self.grid, self.structure, pair, load)
        return self.known[(group, index)]

    def is_balanced(self, group, index):
        """Return True if the forces of a load's pair are in balance with it."""
        return self.answer(group, index).bears(self.structure.groups[group][index].force)

    def of_group(self, group):
        """Return the Enclosures of all loads of a group."""
        return [self.answer(group, index) for index in range(len(self.structure.groups[group]))]


class Rises:
    """Enclosures of loads by groups, and what their greatest rises come to at sides, as far as it is known."""

    def __init__(self, groups):
        self.groups = groups
        self.known = {}

    def greatest(self, side):
        """Return the sum of the greatest rise of each group at a side: a numerator, and a denominator above 0."""
        at, way = side.component, side.sign
        if (at, way) not in self.known:
            self.known[(at, way)] = added([greatest_of([answer.rise_of(at, way) for answer in answers])
                                           for answers in self.groups])
        return self.known[(at, way)]


class Review:
    """A YieldPaper of a structure with the Enclosure of its base, and the Rises of its pairs."""

    def __init__(self, structure, paper, base, rises):
        self.structure = structure
        self.paper = paper
        self.base = base
        self.rises = rises

    def height(self, side):
        """Return what the base and the greatest rises come to at a side: a numerator, and a denominator above 0."""
        n, d = self.rises.greatest(side)
        by = self.base.forces_by
        return n * by + side.sign * self.base.forces[side.component] * d, d * by

    def is_balanced(self):
        """Return True if the forces of the base and of each pair are in balance with their loads."""
        if not self.base.bears(self.structure.base.force):
            return False
        for loads, answers in zip(self.structure.groups, self.rises.groups):
            if not all([answer.bears(load.force) for load, answer in zip(loads, answers)]):
                return False
        return True

    def holds(self):
        """Return True if the paper holds."""
        margin = self.paper.margin
        if at_most(margin, ZERO) or not self.is_balanced():
            return False
        for side in self.structure.sides:
            spare = minus(side.sure, times(margin, self.structure.scale[side.component]))
            if less(spare, self.height(side)):
                return False
        return True

    def keeps_away(self, side, n, d):
        """Return True if a side is kept away from with the ratio n / d."""
        low, low_by = self.structure.factors[side.component][0]
        further = (millionths_above(n * low_by, d * low), MILLION)
        return at_most(further, minus(side.sure, self.height(side)))


def review_of(grid, structure, paper):
    """Return the Review of a YieldPaper."""
    base = enclosure_of(grid, structure, paper.base, structure.base)
    answers = Answers(grid, structure, paper.pairs)
    return Review(structure, paper, base, Rises([answers.of_group(group) for group in range(len(structure.groups))]))


def added(items):
    """Return the sum of numbers, not in lowest terms."""
    n, d = 0, 1
    for a, b in items:
        n, d = n * b + a * d, d * b
    return n, d


def pair_at(pairs, group, index):
    """Return the pair of a load, a pair of empty tuples if there is none."""
    if 0 <= group < len(pairs) and 0 <= index < len(pairs[group]):
        return pairs[group][index]
    return ((), ())


def filled(structure, pair):
    """Return the pair with as many forces and movements as the structure has."""
    forces, movements = pair
    padded = padded_to(forces, len(structure.rows))
    kept = [force if is_there else ZERO for force, is_there in zip(padded, structure.there)]
    return (tuple(kept), tuple(padded_to(movements, len(structure.free))))


def padded_to(values, many):
    """Return the first values as a list, with 0 for those that are missing."""
    return [values[at] if at < len(values) else ZERO for at in range(many)]


def yields_end(structure, paper):
    """Return True if the paper holds."""
    return review_of(Grid(structure), structure, paper).holds()


def start(structure, paper):
    """Return the start of a paper."""
    return start_of(structure, enclosure_of(Grid(structure), structure, paper.base, structure.base))


def start_of(structure, base):
    """Return the start of a paper, by the Enclosure of its base."""
    found = []
    for at in base.present:
        force = ratio(base.forces[at], base.forces_by)
        own = ratio(base.own[at], base.own_by)
        lower, upper = structure.errors[at]
        misfit = greatest_misfit(structure.factors[at], force, minus(own, lower))
        if upper != lower:
            misfit = greater_one(misfit, greatest_misfit(structure.factors[at], force, minus(own, upper)))
        found.append(misfit)
    return total(found)


def yield_of(structure, paper):
    """Return the yield of a paper; its margin is above 0."""
    return over(start(structure, paper), times(TWO, paper.margin))


def is_kept_away(structure, paper, side, amount):
    """Return True if a side that breaks is kept away from with a ratio."""
    n, d = amount
    return review_of(Grid(structure), structure, paper).keeps_away(side, n, d)
