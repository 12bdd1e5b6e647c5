"""What keeps a frame from being calculated with."""

from standfast.frames.model import find
from standfast.frames.parts import Part
from standfast.ratios import ONE, ZERO, at_most, less

CROSSED = "lower bound above the upper one"


def problems(frame):
    """Return the list of all problems of a frame, pairs of a kind and a name."""
    found = []
    for section in frame.sections:
        found.extend(section_problems(section))
    found.extend(told_twice(frame.sections))
    found.extend([(CROSSED, joint.name) for joint in frame.joints if has_crossed_settling(joint)])
    found.extend(told_twice(frame.joints))
    for member in frame.members:
        found.extend(member_problems(frame, member))
    found.extend(told_twice(frame.members))
    found.extend(case_problems(frame, frame.dead))
    for group in frame.groups:
        found.extend(group_problems(frame, group))
    found.extend(told_twice(frame.groups))
    found.extend(loss_problems(frame))
    for asked in frame.asked:
        found.extend(asked_problems(frame, asked))
    found.extend(told_twice(frame.asked))
    return found


def told_twice(items):
    """Return a problem for each item whose name occurs again after it."""
    names = [item.name for item in items]
    return [("told twice", name) for at, name in enumerate(names) if name in names[at + 1:]]


def is_crossed(bounds):
    """Return True if the lower bound is above the upper one."""
    lower, upper = bounds
    return less(upper, lower)


def section_problems(section):
    """Return the problems of a section, each kind once."""
    found = []
    if is_crossed(section.stiff) or is_crossed(section.factor):
        found.append((CROSSED, section.name))
    if is_without_strength(section):
        found.append(("not above 0", section.name))
    if any([less(number, ZERO) for number in (section.pull, section.push, section.weight)]):
        found.append(("below 0", section.name))
    return found


def is_without_strength(section):
    """Return True if a lower bound, or both pull and push, are not above 0."""
    if at_most(section.stiff[0], ZERO) or at_most(section.factor[0], ZERO):
        return True
    return at_most(section.pull, ZERO) and at_most(section.push, ZERO)


def has_crossed_settling(joint):
    """Return True if the bounds of some settling of a joint are crossed."""
    return any([is_crossed(settling) for settling in joint.held if settling is not None])


def member_problems(frame, member):
    """Return the problems of a member."""
    found = no_such_joints(frame, [member.first, member.second])
    if find(frame.sections, member.section) is None:
        found.append(("no such section", member.section))
    if not found and Part(frame, member).low == ZERO:
        found.append(("ends too near", member.name))
    if is_crossed(member.error):
        found.append((CROSSED, member.name))
    return found


def no_such_joints(frame, names):
    """Return a problem for each name that no joint has."""
    return [("no such joint", name) for name in names if find(frame.joints, name) is None]


def case_problems(frame, case):
    """Return the problems of a case."""
    found = no_such_joints(frame, [joint for joint, _, _ in case.forces])
    found.extend([("no such member", name) for name, _ in case.heats if find(frame.members, name) is None])
    return found


def group_problems(frame, group):
    """Return the problems of a group."""
    found = []
    if not group.cases:
        found.append(("no cases", group.name))
    for case in group.cases:
        found.extend(case_problems(frame, case))
    return found


def loss_problems(frame):
    """Return the problems of what may be lost."""
    found = []
    if len([member for member in frame.members if member.losable]) < frame.lose:
        found.append(("fewer members that may be lost", ""))
    if less(frame.blow, ONE):
        found.append(("blow below 1", ""))
    return found


def asked_problems(frame, asked):
    """Return the problems of an asked movement."""
    at = find(frame.joints, asked.joint)
    if at is None:
        return [("no such joint", asked.joint)]
    held = frame.joints[at].held
    if any([settling is not None and number != ZERO for settling, number in zip(held, asked.along)]):
        return [("held there", asked.joint)]
    return []
