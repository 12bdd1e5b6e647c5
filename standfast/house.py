"""Frames under change."""

from standfast.errors import FrameHasProblems, InvalidLoss, NothingToUndo
from standfast.finding.bearing import most_limits, raising, sure_limits
from standfast.finding.verdict import verdict
from standfast.frames.edits import edit_frame
from standfast.frames.model import find
from standfast.frames.problems import problems
from standfast.frames.reading import read_frame
from standfast.frames.writing import write_frame
from standfast.lightest.search import lightest
from standfast.lightest.trees import write_tree
from standfast.papers.codes import write_paper
from standfast.papers.ground import Site
from standfast.structure.build import build
from standfast.trials.trial import Trial

MOST_EDITS = 100


class House:
    """A frame without problems, the frames before its last edits, and those behind edits that were undone."""

    def __init__(self, text):
        self.frame = checked(read_frame(text))
        self.before = []
        self.undone = []

    def text(self):
        """Return the written form of the frame."""
        return write_frame(self.frame)

    def edit(self, text):
        """Edit the frame."""
        changed = checked(edit_frame(self.frame, text))
        before = [*self.before, self.frame]
        self.before = before[-MOST_EDITS:]
        self.undone = []
        self.frame = changed

    def undo(self):
        """Undo the last edit that is not undone."""
        if not self.before:
            raise NothingToUndo("there is no edit to undo")
        self.undone.append(self.frame)
        self.frame = self.before.pop()

    def redo(self):
        """Do the last edit that was undone again."""
        if not self.undone:
            raise NothingToUndo("there is no edit to do again")
        self.before.append(self.frame)
        self.frame = self.undone.pop()

    def verdict(self):
        """Return the kind of the verdict, and the text of its paper or None."""
        kind, paper = verdict(Site(self.frame))
        return kind, paper_text(paper)

    def raising(self, names):
        """Return how far loads can be raised behind the loss of members: for sure, and at most."""
        structure = Site(self.frame).behind(self.lost_members(names))
        return raising(structure, sure_limits(structure)), raising(structure, most_limits(structure))

    def lost_members(self, names):
        """Return the set of the members with these names, if they may be lost together."""
        lost = {}
        for name in names:
            at = find(self.frame.members, name)
            if at is None or at in lost or not self.frame.members[at].losable:
                raise InvalidLoss("these are no names of members that may be lost, each once")
            lost[at] = True
        if len(lost) > self.frame.lose:
            raise InvalidLoss("so many members may not be lost together")
        return tuple(sorted(lost))

    def lightest(self, lists, boxes):
        """Return the lightest choice that is found, with names of sections, and with texts of its paper and tree."""
        choice, weight, least, paper, tree = lightest(self.frame, lists, boxes)
        names = None
        if choice is not None:
            names = [sections[index] for (_, sections), index in zip(lists, choice)]
        return names, weight, least, paper_text(paper), write_tree(tree)

    def trial(self, truth):
        """Return a new Trial of the frame's structure."""
        return Trial(build(self.frame), truth)


def checked(frame):
    """Return a frame, which must not have problems."""
    found = problems(frame)
    if found:
        kind, name = found[0]
        raise FrameHasProblems(f"{kind}: {name}")
    return frame


def paper_text(paper):
    """Return the text of a paper, or None for None."""
    return None if paper is None else write_paper(paper)
