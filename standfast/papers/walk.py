"""The walk through sets of lost members."""

from standfast.papers.losses import left
from standfast.papers.yielding import filled, heights, start, stays_below
from standfast.ratios import TWO, ZERO, greater_one, minus, over, plus, times, total
from standfast.roots import root_above

MOST_SETS = 300


class Stop:
    """A set of lost members: what is left, its paper, and the sides that break with what they come to."""

    def __init__(self, structure, paper):
        breaking = [side for side in structure.sides if side.breaks]
        self.structure = structure
        self.paper = paper
        self.breaking = list(zip(breaking, heights(structure, paper, breaking)))

    def weak_at(self, distance):
        """Return the members that are not kept away from breaking at a distance."""
        square = times(distance, distance)
        return [side.component for side, height in self.breaking
                if not stays_below(self.structure, side, height, square)]


class Way:
    """The sets that have come up on a walk, and the Stops that are known."""

    def __init__(self, structure, losable, blow, papers):
        self.structure = structure
        self.losable = tuple(losable)
        self.blow = blow
        self.papers = papers
        self.stops = {}
        self.passed = []

    def stop_at(self, lost):
        """Return the Stop of a set, or None if it has no paper."""
        if lost not in self.papers:
            return None
        if lost not in self.stops:
            self.stops[lost] = Stop(left(self.structure, list(lost), self.blow), self.papers[lost])
        return self.stops[lost]

    def next_members(self, lost, more, weak):
        """Return the members that may be lost next, in order."""
        found = []
        for member in range(len(self.structure.rows)):
            may_be_lost = member in weak or (more > 0 and member in self.losable)
            if may_be_lost and member not in lost:
                found.append(member)
        return found

    def greatest_sum(self, lost, distance, more, weak):
        """Return the greatest sum at a set that has a paper, or None if the walk cannot go on."""
        self.passed.append(lost)
        if len(self.passed) > MOST_SETS:
            return None
        here = self.stop_at(lost)
        weak_now = [*weak, *here.weak_at(distance)]
        members = self.next_members(lost, more, weak_now)
        greatest = ZERO
        for member in members:
            further = tuple(sorted([*lost, member]))
            there = self.stop_at(further)
            if there is None:
                return None
            farther = plus(distance, leap(there.structure, here.paper, there.paper))
            found = self.greatest_sum(further, farther, more if member in weak_now else more - 1, weak_now)
            if found is None:
                return None
            greatest = greater_one(greatest, found)
        return plus(over(times(distance, distance), times(TWO, here.paper.margin)), greatest)


def leap(structure, first, second):
    """Return the leap to what is left after one further loss, by a yield paper of each."""
    before, _ = filled(structure, first.base)
    behind, _ = filled(structure, second.base)
    squares = []
    for at, is_there in enumerate(structure.there):
        if is_there:
            change = minus(behind[at], before[at])
            squares.append(times(structure.factors[at][1], times(change, change)))
    return root_above(total(squares))


def walk(structure, losable, lose, blow, papers):
    """Return the sets that come up and the greatest sum at the first set, or None."""
    way = Way(structure, losable, blow, papers)
    if way.stop_at(()) is None:
        return None
    distance = root_above(start(structure, papers[()]))
    greatest = way.greatest_sum((), distance, lose, [])
    return None if greatest is None else (way.passed, greatest)
