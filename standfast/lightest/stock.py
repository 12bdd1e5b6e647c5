"""What all choices of sections for a frame have in common."""

from standfast.frames.model import find
from standfast.frames.parts import Part
from standfast.lightest.strengths import cost_with, lengths_along
from standfast.papers.ground import Site
from standfast.ratios import ZERO, greatest_of, lesser_one, plus, times, total


class Stock:
    """A frame with lists that fit it: its parts, the sections of each list, and the list of each member or None."""

    def __init__(self, frame, lists):
        self.frame = frame
        self.lists = [(list(members), list(names)) for members, names in lists]
        self.site = Site(frame)
        self.parts = [Part(frame, member) for member in frame.members]
        self.sections = [[frame.sections[find(frame.sections, name)] for name in names] for _, names in lists]
        self.list_of = lists_of_members(frame, lists)
        lengths = [ZERO for _ in lists]
        fixed = ZERO
        for part, at in zip(self.parts, self.list_of):
            if at is None:
                fixed = plus(fixed, times(part.section.weight, part.high))
            else:
                lengths[at] = plus(lengths[at], part.high)
        self.fixed_weight = fixed
        self.lengths = lengths

    def least_weight(self, box):
        """Return what a box weighs at least."""
        found = self.fixed_weight
        for sections, length, places in zip(self.sections, self.lengths, box):
            least = sections[places[0]].weight
            for place in places:
                least = lesser_one(least, sections[place].weight)
            found = plus(found, times(least, length))
        return found

    def cost(self, box, strains):
        """Return what members, a dict with their strains, cost at most with sections of a box.

        For each list the sections of all its members are the same.
        """
        pulls = [ZERO for _ in box]
        pushes = [ZERO for _ in box]
        costs = []
        for member in strains:
            longer, shorter = lengths_along(self.parts[member], strains[member])
            at = self.list_of[member]
            if at is None:
                costs.append(cost_with(self.parts[member].section, longer, shorter))
            else:
                pulls[at] = plus(pulls[at], longer)
                pushes[at] = plus(pushes[at], shorter)
        for sections, places, longer, shorter in zip(self.sections, box, pulls, pushes):
            costs.append(greatest_of([cost_with(sections[place], longer, shorter) for place in places]))
        return total(costs)


def lists_of_members(frame, lists):
    """Return for each member the index of the first list that has its name, or None."""
    found = []
    for member in frame.members:
        having = [at for at, (names, _) in enumerate(lists) if member.name in names]
        found.append(having[0] if having else None)
    return found
