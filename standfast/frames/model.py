"""Frames as they are described: sections, joints, members, loads, and what is asked."""

from standfast.copies import as_tuples


class Section:
    """What members are made of."""

    def __init__(self, name, stiff, pull, push, factor, breaks, weight):
        self.name = name
        self.stiff = as_tuples(stiff)
        self.pull = as_tuples(pull)
        self.push = as_tuples(push)
        self.factor = as_tuples(factor)
        self.breaks = breaks
        self.weight = as_tuples(weight)


class Joint:
    """A place where members meet, and for each direction None or the range within which it settles."""

    def __init__(self, name, place, held):
        self.name = name
        self.place = as_tuples(place)
        self.held = as_tuples(held)


class Member:
    """A bar between two joints, told by names."""

    def __init__(self, name, first, second, section, error, losable):
        self.name = name
        self.first = first
        self.second = second
        self.section = section
        self.error = as_tuples(error)
        self.losable = losable


class Case:
    """Forces at joints, and how much longer members become, per length."""

    def __init__(self, forces, heats):
        self.forces = as_tuples(forces)
        self.heats = as_tuples(heats)


class Group:
    """Cases of which one acts at each moment, or a mixture of them."""

    def __init__(self, name, cases):
        self.name = name
        self.cases = as_tuples(cases)


class Asked:
    """A movement of a joint that is asked for."""

    def __init__(self, name, joint, along):
        self.name = name
        self.joint = joint
        self.along = as_tuples(along)


class Frame:
    """All that a text of a frame tells."""

    def __init__(self, sections, joints, members, gravity, dead, groups, lose, blow, asked):
        self.sections = as_tuples(sections)
        self.joints = as_tuples(joints)
        self.members = as_tuples(members)
        self.gravity = as_tuples(gravity)
        self.dead = dead
        self.groups = as_tuples(groups)
        self.lose = lose
        self.blow = as_tuples(blow)
        self.asked = as_tuples(asked)


def find(items, name):
    """Return the index of the first item with this name, or None."""
    for at, item in enumerate(items):
        if item.name == name:
            return at
    return None
