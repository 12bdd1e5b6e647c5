"""Members as parts that go from the place of one joint to that of another."""

from standfast.frames.model import find
from standfast.ratios import minus, negative, times, total
from standfast.roots import root_above, root_below


class Part:
    """A member: the indices of its joints, its Section and error, its direction, the direction's square and roots."""

    def __init__(self, frame, member):
        first = find(frame.joints, member.first)
        second = find(frame.joints, member.second)
        before = frame.joints[first].place
        behind = frame.joints[second].place
        self.ends = (first, second)
        self.section = frame.sections[find(frame.sections, member.section)]
        self.error = member.error
        self.along = tuple([minus(b, a) for a, b in zip(before, behind)])
        self.square = total([times(a, a) for a in self.along])
        self.low = root_below(self.square)
        self.high = root_above(self.square)

    def pulls(self):
        """Return for each end the joint, and by what its movements are multiplied in the part's strain."""
        first, second = self.ends
        return ((first, tuple([negative(a) for a in self.along])), (second, self.along))
