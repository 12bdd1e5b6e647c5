"""The judge of papers. It adds, multiplies, divides, rounds roots, and compares; it does not search."""

from standfast.elastic.enclosing import enclosure_of
from standfast.papers.falls import falls
from standfast.papers.ground import is_set
from standfast.papers.loads import choice_pulls
from standfast.papers.movements import Unit, unit_load
from standfast.papers.turns import turns
from standfast.papers.walk import Stops, Way
from standfast.ratios import ZERO, at_most, greater_one, less, lesser_one
from standfast.structure.grid import Grid, here


class Hearing:
    """A paper of bounds before the judge, with what is known of its set papers so far."""

    def __init__(self, site, paper):
        self.site = site
        self.by_sets = {item.lost: item for item in paper.sets}
        are_above_zero = all([less(ZERO, item.paper.margin) for item in paper.sets])
        self.is_clear = are_above_zero and len(self.by_sets) == len(paper.sets)
        papers = {item.lost: item.paper for item in paper.sets}
        self.stops = Stops(site.structure, site.blow, papers)
        self.units = {}
        self.has_walked = False
        self.walk_found = None

    def walked(self):
        """Return the sets that come up and the total, or None."""
        if not self.has_walked:
            self.has_walked = True
            self.walk_found = Way(self.site.structure, self.site.losable, self.stops).walked(self.site.lose)
        return self.walk_found

    def units_at(self, lost):
        """Return the Units of the asked movements for a set, one for each unit pair."""
        if lost not in self.units:
            behind = self.stops.review_at(lost).structure
            self.units[lost] = [Unit(behind, enclosure_of(self.stops.grid, behind, pair, unit_load(row)))
                                for pair, row in zip(self.by_sets[lost].units, self.site.asked)]
        return self.units[lost]

    def holds_at(self, lost):
        """Return True if the set paper of a set is right by itself."""
        asked = self.site.asked
        if len(self.by_sets[lost].units) != len(asked):
            return False
        if not all([unit.answer.bears(row) for unit, row in zip(self.units_at(lost), asked)]):
            return False
        return self.stops.review_at(lost).holds()

    def is_accepted(self):
        """Return True if the paper is accepted."""
        walked = self.walked() if self.is_clear else None
        if walked is None:
            return False
        sets, _ = walked
        for lost in once_each(sets):
            if not self.holds_at(lost):
                return False
        return True

    def verdict(self):
        """Return the total and the bounds of each asked movement, if the paper is accepted."""
        sets, total = self.walked()
        found = [None for _ in self.site.asked]
        for lost in once_each(sets):
            review = self.stops.review_at(lost)
            for at, unit in enumerate(self.units_at(lost)):
                found[at] = wider(found[at], unit.bounds(review, total))
        return total, found


def once_each(sets):
    """Return the sets in order, each once."""
    return list({lost: True for lost in sets})


def wider(first, second):
    """Return bounds around two pairs of bounds; the first may be None."""
    if first is None:
        return second
    return (lesser_one(first[0], second[0]), greater_one(first[1], second[1]))


def accepts(site, paper):
    """Return True if a paper is accepted."""
    judge = JUDGES[paper.kind]
    return judge(site, paper)


def verdict_of(site, paper):
    """Return the total of an accepted paper of bounds, and a list of the least and the most of each asked movement."""
    return Hearing(site, paper).verdict()


def accepts_bounds(site, paper):
    """Return True if a paper of bounds is accepted."""
    return Hearing(site, paper).is_accepted()


def accepts_borne(site, paper):
    """Return True if a paper that all is borne is accepted."""
    if any([side.breaks for side in site.structure.sides]):
        return False
    sets = site.sets()
    if len(paper.forces) != len(sets):
        return False
    grid = Grid(site.structure)
    for lost, several in zip(sets, paper.forces):
        if not bears_all(grid, site.behind(lost), several):
            return False
    return True


def bears_all(grid, structure, several):
    """Return True if forces are given for each choice of a structure, and they bear it for sure."""
    many = 1
    for loads in structure.groups:
        many *= len(loads)
    if len(several) != many:
        return False
    known = {}
    for pull, forces in zip(choice_pulls(structure), several):
        if (pull, forces) not in known:
            known[(pull, forces)] = bears_one(grid, structure, pull, forces)
        if not known[(pull, forces)]:
            return False
    return True


def bears_one(grid, structure, pull, forces):
    """Return True if forces are in balance with a row of forces, and all sides bear them for sure."""
    present = here(structure)
    given, by = grid.whole_forces(present, forces)
    if not grid.balances(present, given, by, pull):
        return False
    return all([at_most((side.sign * given[side.component], by), side.sure) for side in structure.sides])


def accepts_turns(site, paper):
    """Return True if a paper of turns is accepted."""
    return is_set(site, paper.lost) and turns(site.bare(paper.lost), paper.yields, paper.movement, paper.pairs)


def accepts_falls(site, paper):
    """Return True if a paper of a fall is accepted."""
    return is_set(site, paper.lost) and falls(site.bare(paper.lost), paper.choice, paper.movement, paper.amounts)


JUDGES = {"bounds": accepts_bounds, "borne": accepts_borne, "turns": accepts_turns, "falls": accepts_falls}
