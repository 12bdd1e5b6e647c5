"""What a frame gives to papers."""

from standfast.papers.losses import left, left_bare, loss_sets
from standfast.structure.build import asked_rows, build


class Site:
    """The structure of a frame without problems, what may be lost of it, and what is asked."""

    def __init__(self, frame):
        self.structure = build(frame)
        self.losable = tuple([at for at, member in enumerate(frame.members) if member.losable])
        self.lose = frame.lose
        self.blow = frame.blow
        self.asked = tuple(asked_rows(frame))

    def sets(self):
        """Return the list of sets of members that may be lost together."""
        return loss_sets(list(self.losable), self.lose)

    def behind(self, lost):
        """Return what is left after a loss, with blows."""
        return left(self.structure, list(lost), self.blow)

    def bare(self, lost):
        """Return what is left after a loss, without blows."""
        return left_bare(self.structure, list(lost))


def choices(structure):
    """Return the list of choices, lists, in order."""
    found = [[]]
    for loads in structure.groups:
        found = [[*choice, index] for choice in found for index in range(len(loads))]
    return found


def is_set(site, lost):
    """Return True if a tuple is one of the sets of a site."""
    if len(lost) > site.lose or not all([member in site.losable for member in lost]):
        return False
    return all([first < second for first, second in zip(lost, lost[1:])])
