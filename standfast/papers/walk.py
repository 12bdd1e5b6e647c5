"""The walk through sets of lost members."""

from standfast.elastic.enclosing import enclosure_of
from standfast.papers.losses import left
from standfast.papers.yielding import review_of, start_of
from standfast.ratios import ONE, ZERO, greater_one, plus, ratio
from standfast.roots import MILLION, millionths_above
from standfast.structure.grid import Grid
from standfast.whole import over_common

MOST_SETS = 300


class Stop:
    """A set of lost members: its base's forces as integers and their divisor, its margin, and the sides that break.

    These follow from the Review of the paper; it may be None if nothing breaks.
    """

    def __init__(self, paper, review):
        self.forces, self.by = over_common(paper.base[0])
        self.margin = paper.margin
        self.review = review
        self.breaking = [] if review is None else [side for side in review.structure.sides if side.breaks]

    def force_at(self, at):
        """Return the force of a component as an integer, 0 if it is missing."""
        return self.forces[at] if at < len(self.forces) else 0

    def weak_at(self, distance):
        """Return the members that are not kept away from breaking at a distance in millionths."""
        square = distance * distance
        return [side.component for side in self.breaking
                if not self.review.keeps_away(side, square, MILLION * MILLION)]


class Stops:
    """The Stops of given papers, a dict by sets, with what is left and the Reviews as far as they are known."""

    def __init__(self, structure, blow, papers):
        self.grid = Grid(structure)
        self.structure = structure
        self.blow = blow
        self.papers = papers
        self.stops = {}
        self.reviews = {}
        self.breaks = any([side.breaks for side in structure.sides])

    def stop_at(self, lost):
        """Return the Stop of a set, or None if it has no paper."""
        if lost not in self.papers:
            return None
        if lost not in self.stops:
            review = self.review_at(lost) if self.breaks else None
            self.stops[lost] = Stop(self.papers[lost], review)
        return self.stops[lost]

    def review_at(self, lost):
        """Return the Review of the paper of a set."""
        if lost not in self.reviews:
            behind = left(self.structure, list(lost), self.blow)
            self.reviews[lost] = review_of(self.grid, behind, self.papers[lost])
        return self.reviews[lost]

    def first_distance(self):
        """Return in millionths the root from above of the start of the first paper."""
        base = enclosure_of(self.grid, self.structure, self.papers[()].base, self.structure.base)
        return root_of_start(self.structure, base)


class Way:
    """The sets that have come up on a walk over Stops."""

    def __init__(self, structure, losable, stops):
        self.grid = stops.grid
        self.present = [at for at, is_there in enumerate(structure.there) if is_there]
        self.members = list(range(len(structure.rows)))
        self.losable = {member: True for member in losable}
        self.stops = stops
        self.passed = []

    def next_members(self, lost, more, weak):
        """Return the members that may be lost next, in order."""
        found = []
        for member in self.members:
            if member not in lost and (member in weak or (more > 0 and member in self.losable)):
                found.append(member)
        return found

    def is_surely_too_long(self, lose):
        """Return True if there are too many sets even without weak members, which make them more."""
        several = 1
        sets = 1
        for further in range(lose):
            several *= len([member for member in self.members if member in self.losable]) - further
            sets += several
            if several == 0 or sets > MOST_SETS:
                break
        return sets > MOST_SETS

    def leap(self, lost, here, there):
        """Return in millionths the leap between two Stops to what is left after a set is lost."""
        added = 0
        for at in self.present:
            if at not in lost:
                change = there.force_at(at) * here.by - here.force_at(at) * there.by
                if change != 0:
                    added += self.grid.highs[at] * change * change
        return millionths_above(added, self.grid.fine * (here.by * there.by) ** 2)

    def greatest_sum(self, lost, distance, more, weak):
        """Return the greatest sum at a set that has a Stop, or None if the walk cannot go on."""
        self.passed.append(lost)
        if len(self.passed) > MOST_SETS:
            return None
        stop = self.stops.stop_at(lost)
        weak_now = [*weak, *stop.weak_at(distance)]
        greatest = ZERO
        for member in self.next_members(lost, more, weak_now):
            further = tuple(sorted([*lost, member]))
            there = self.stops.stop_at(further)
            if there is None:
                return None
            farther = distance + self.leap(further, stop, there)
            found = self.greatest_sum(further, farther, more if member in weak_now else more - 1, weak_now)
            if found is None:
                return None
            greatest = greater_one(greatest, found)
        n, d = stop.margin
        return plus(ratio(distance * distance * d, 2 * MILLION * MILLION * n), greatest)

    def walked(self, lose):
        """Return the sets that come up and the greatest sum at the first set, or None."""
        if self.is_surely_too_long(lose) or self.stops.stop_at(()) is None:
            return None
        greatest = self.greatest_sum((), self.stops.first_distance(), lose, [])
        return None if greatest is None else (self.passed, greatest)


def root_of_start(structure, base):
    """Return in millionths the root from above of the start of a paper, by the Enclosure of its base."""
    n, d = start_of(structure, base)
    return millionths_above(n, d)


def leap(structure, first, second):
    """Return the leap to what is left after one further loss, by a yield paper of each."""
    way = Way(structure, [], Stops(structure, ONE, {}))
    return ratio(way.leap((), Stop(first, None), Stop(second, None)), MILLION)


def walk(structure, losable, lose, blow, papers):
    """Return the sets that come up and the greatest sum at the first set, or None."""
    return Way(structure, losable, Stops(structure, blow, papers)).walked(lose)
