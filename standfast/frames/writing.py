"""The written form of frames."""

from standfast.frames.defaults import NOTHING, UNCHANGED
from standfast.ratios import ONE, ZERO, ratio
from standfast.written import write_number


def write_frame(frame):
    """Return the written form of a frame."""
    lines = [section_line(section) for section in frame.sections]
    lines.extend([joint_line(joint) for joint in frame.joints])
    lines.extend([member_line(member) for member in frame.members])
    if frame.gravity != NOTHING:
        lines.append("gravity " + pair_words(frame.gravity))
    if frame.dead.forces or frame.dead.heats:
        lines.append("dead" + load_words(frame.dead))
    for group in frame.groups:
        lines.append("group " + group.name)
        lines.extend(["case" + load_words(case) for case in group.cases])
    if frame.lose != 0 or frame.blow != ONE:
        lines.append(lose_line(frame.lose, frame.blow))
    lines.extend([asked_line(asked) for asked in frame.asked])
    return "".join([line + "\n" for line in lines])


def section_line(section):
    """Return the line of a section."""
    pull = write_number(section.pull)
    push = write_number(section.push)
    line = f"section {section.name} stiff {pair_words(section.stiff)} pull {pull} push {push}"
    if section.factor != UNCHANGED:
        line += " factor " + pair_words(section.factor)
    if section.breaks != "":
        line += " breaks " + section.breaks
    if section.weight != ZERO:
        line += " weight " + write_number(section.weight)
    return line


def joint_line(joint):
    """Return the line of a joint."""
    across, upwards = joint.held
    held = held_words("x", across) + held_words("y", upwards)
    return f"joint {joint.name} {pair_words(joint.place)}" + held


def held_words(direction, settling):
    """Return the words about a direction in which a joint may be held, with a blank before each."""
    if settling is None:
        return ""
    bounds = "" if settling == NOTHING else " " + pair_words(settling)
    return f" {direction}{bounds}"


def member_line(member):
    """Return the line of a member."""
    line = f"member {member.name} {member.first} {member.second} {member.section}"
    if member.error != NOTHING:
        line += " error " + pair_words(member.error)
    return line + " losable" if member.losable else line


def load_words(case):
    """Return the words of loads, with a blank before each."""
    forces = [f" at {joint} {write_number(x)} {write_number(y)}" for joint, x, y in case.forces]
    heats = [f" heat {member} {write_number(amount)}" for member, amount in case.heats]
    return "".join(forces + heats)


def lose_line(lose, blow):
    """Return the line of how many members may be lost."""
    line = "lose " + write_number(ratio(lose))
    return line if blow == ONE else line + " blow " + write_number(blow)


def asked_line(asked):
    """Return the line of an asked movement."""
    return f"ask {asked.name} {asked.joint} {pair_words(asked.along)}"


def pair_words(pair):
    """Return two numbers with a blank between them."""
    first, second = pair
    return write_number(first) + " " + write_number(second)
