"""The papers that are found for a site, and its verdict."""

from standfast.elastic.pairs import middle_elastic
from standfast.finding.bearing import found_fall, sure_limits
from standfast.finding.limits import bearer_of
from standfast.finding.yields import Elastics, found_review, found_turns
from standfast.papers.judge import accepts
from standfast.papers.kinds import Borne, Bounds, Falls, SetPaper, Turns
from standfast.papers.loads import choice_pulls
from standfast.papers.movements import unit_load
from standfast.papers.walk import Stop, Way, root_of_start
from standfast.structure.grid import Grid


class FoundStops:
    """The Stops of found papers. Each set paper is made when its set comes up first."""

    def __init__(self, site):
        self.site = site
        self.grid = Grid(site.structure)
        self.known = {}
        self.set_papers = []

    def stop_at(self, lost):
        """Return the Stop of a set, or None if there is no paper for it."""
        if lost not in self.known:
            self.known[lost] = self.found_stop(lost)
        return self.known[lost]

    def found_stop(self, lost):
        """Find the set paper of a set, and return its Stop, or None if there is none."""
        behind = self.site.behind(lost)
        elastic = middle_elastic(self.grid, behind)
        answers = [elastic.answer(unit_load(row)) for row in self.site.asked]
        if any([answer is None for answer in answers]):
            return None
        review = found_review(Elastics(behind, elastic))
        if review is None:
            return None
        self.set_papers.append(SetPaper(lost, review.paper, [answer.pair() for answer in answers]))
        return Stop(review.paper, review)

    def first_distance(self):
        """Return in millionths the root from above of the start of the first paper."""
        return root_of_start(self.site.structure, self.known[()].review.base)


def found_bounds(site):
    """Return the found paper of bounds, or None."""
    stops = FoundStops(site)
    if Way(site.structure, site.losable, stops).walked(site.lose) is None:
        return None
    return Bounds(stops.set_papers)


def found_borne(site):
    """Return the found paper that all is borne, or None."""
    if any([side.breaks for side in site.structure.sides]):
        return None
    found = []
    for lost in site.sets():
        forces = forces_for_all(site.behind(lost))
        if forces is None:
            return None
        found.append(forces)
    return Borne(found)


def forces_for_all(structure):
    """Return forces that bear each choice of a structure for sure, or None."""
    bearer = bearer_of(structure)
    limits = sure_limits(structure)
    known = {}
    found = []
    for pull in choice_pulls(structure):
        if pull not in known:
            known[pull] = bearer.nearest_forces(pull, limits)
        if known[pull] is None:
            return None
        found.append(known[pull])
    return found


def found_site_turns(site):
    """Return the found paper of turns, of the first set that has them, or None."""
    for lost in site.sets():
        found = found_turns(site.bare(lost))
        if found is not None:
            yields, movement, pairs = found
            return Turns(lost, yields, movement, pairs)
    return None


def found_site_falls(site):
    """Return the found paper of a fall, of the first set that has one, or None."""
    for lost in site.sets():
        found = found_fall(site.bare(lost))
        if found is not None:
            choice, movement, amounts = found
            return Falls(lost, choice, movement, amounts)
    return None


def if_accepted(site, paper):
    """Return the paper if it is one and the judge accepts it, otherwise None."""
    return paper if paper is not None and accepts(site, paper) else None


def verdict(site):
    """Return the kind of the first paper that is found and accepted, and the paper; or "open" and None."""
    for find_paper in (found_bounds, found_site_falls, found_site_turns, found_borne):
        paper = if_accepted(site, find_paper(site))
        if paper is not None:
            return (paper.kind, paper)
    return ("open", None)
