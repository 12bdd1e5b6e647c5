"""A frame while its lines are taken in."""

from standfast.frames.model import Frame, Group, find
from standfast.frames.words import Unexpected, Words


class Draft:
    """The parts of a frame: lists by kinds, and the parts of which there is one.

    The group is the index of the group to which cases are added, or None. What is given are the parts of
    which there is one, if they were taken in.
    """

    def __init__(self, frame):
        self.lists = {
            "section": list(frame.sections),
            "joint": list(frame.joints),
            "member": list(frame.members),
            "group": list(frame.groups),
            "ask": list(frame.asked),
        }
        self.singles = {"gravity": frame.gravity, "dead": frame.dead, "lose": (frame.lose, frame.blow)}
        self.group = None
        self.given = {}

    def take_in(self, kind, thing):
        """Take in what a line tells, after all others of its kind."""
        if kind == "case":
            self.take_case(thing)
        elif kind in self.singles:
            self.singles[kind] = thing
            self.given[kind] = True
        else:
            self.lists[kind].append(thing)
            if kind == "group":
                self.group = len(self.lists[kind]) - 1

    def take_in_place(self, kind, thing):
        """Take in what a line tells, in place of the first one of its kind with its name if there is one."""
        at = find(self.lists[kind], thing.name) if kind in self.lists else None
        if at is None:
            self.take_in(kind, thing)
            return
        self.lists[kind][at] = thing
        if kind == "group":
            self.group = at

    def take_case(self, case):
        """Add a case to the group that was told last."""
        groups = self.lists["group"]
        group = groups[self.group]
        groups[self.group] = Group(group.name, (*group.cases, case))

    def take_out(self, kind, name):
        """Remove the first one of a kind with a name; return False if there is none."""
        at = find(self.lists[kind], name)
        if at is None:
            return False
        del self.lists[kind][at]
        if kind == "group" and self.group is not None:
            self.follow_removal(at)
        return True

    def follow_removal(self, at):
        """Keep to the group that was told last after the group at an index was removed."""
        if at == self.group:
            self.group = None
        elif at < self.group:
            self.group -= 1

    def finished(self):
        """Return the Frame."""
        lose, blow = self.singles["lose"]
        return Frame(
            self.lists["section"], self.lists["joint"], self.lists["member"], self.singles["gravity"],
            self.singles["dead"], self.lists["group"], lose, blow, self.lists["ask"],
        )


def take_text(draft, text, take_line):
    """Take in each line that has words; return the place of the first fault, or None."""
    for number, line in enumerate(text.split("\n"), start=1):
        words = Words(line)
        if words.is_at_end():
            continue
        try:
            take_line(draft, words)
        except Unexpected as fault:
            return (number, fault.column, fault.expected)
    return None


def check_case(draft, kind, column):
    """Refuse a case, by the column of its first word, if there is no group for it."""
    if kind == "case" and draft.group is None:
        raise Unexpected(column, "group")


def message_of(place):
    """Return a message about the place of a fault."""
    line, column, expected = place
    return f"line {line}, column {column}: expected {expected}"
