"""The lines of a frame's text behind their first words."""

from standfast.frames.defaults import NOTHING, UNCHANGED
from standfast.frames.model import Asked, Case, Group, Joint, Member, Section
from standfast.ratios import ONE, ZERO


def read_section(words):
    """Return the Section that a line tells."""
    name = words.take_name()
    words.take_word("stiff")
    stiff = words.take_pair()
    words.take_word("pull")
    pull = words.take_number()
    words.take_word("push")
    push = words.take_number()
    factor = words.take_pair() if words.skips("factor") else UNCHANGED
    breaks = ""
    if words.skips("breaks"):
        breaks = words.take_one_of(("push", "pull", "both"), "push, pull or both")
    weight = words.take_number() if words.skips("weight") else ZERO
    words.finish("end of line")
    return Section(name, stiff, pull, push, factor, breaks, weight)


def read_joint(words):
    """Return the Joint that a line tells."""
    name = words.take_name()
    place = words.take_pair()
    across = words.take_pair_if_there() if words.skips("x") else None
    upwards = words.take_pair_if_there() if words.skips("y") else None
    words.finish("end of line")
    return Joint(name, place, (across, upwards))


def read_member(words):
    """Return the Member that a line tells."""
    name = words.take_name()
    first = words.take_name()
    second = words.take_name()
    section = words.take_name()
    error = words.take_pair() if words.skips("error") else NOTHING
    losable = words.skips("losable")
    words.finish("end of line")
    return Member(name, first, second, section, error, losable)


def read_gravity(words):
    """Return the pair that a line tells."""
    gravity = words.take_pair()
    words.finish("end of line")
    return gravity


def read_loads(words):
    """Return the Case that a line tells."""
    forces = []
    heats = []
    while not words.is_at_end():
        if words.take_one_of(("at", "heat"), "at or heat") == "at":
            joint = words.take_name()
            across = words.take_number()
            forces.append((joint, across, words.take_number()))
        else:
            member = words.take_name()
            heats.append((member, words.take_number()))
    return Case(forces, heats)


def read_group(words):
    """Return the Group that a line tells, without cases."""
    name = words.take_name()
    words.finish("end of line")
    return Group(name, ())


def read_lose(words):
    """Return the pair of how many members may be lost and the blow."""
    lose = words.take_whole()
    blow = words.take_number() if words.skips("blow") else ONE
    words.finish("end of line")
    return (lose, blow)


def read_asked(words):
    """Return the Asked that a line tells."""
    name = words.take_name()
    joint = words.take_name()
    along = words.take_pair()
    words.finish("end of line")
    return Asked(name, joint, along)


READERS = {
    "section": read_section,
    "joint": read_joint,
    "member": read_member,
    "gravity": read_gravity,
    "dead": read_loads,
    "group": read_group,
    "case": read_loads,
    "lose": read_lose,
    "ask": read_asked,
}


def read_line(kind, words):
    """Return what a line of a kind tells behind its first word."""
    reader = READERS[kind]
    return reader(words)
