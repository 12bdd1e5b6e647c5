"""The structure of a frame without problems."""

from standfast.frames.defaults import NOTHING
from standfast.frames.model import find
from standfast.frames.parts import Part
from standfast.ratios import HALF, greater_one, negative, over, times
from standfast.structure.model import Load, Side, Structure
from standfast.structure.rows import add_rows, make_row


def build(frame):
    """Return the Structure of a frame without problems."""
    parts = [Part(frame, member) for member in frame.members]
    free = free_movements(frame)
    places = places_of(free)
    return Structure(
        free,
        [part_row(places, part) for part in parts],
        [factor_of(part) for part in parts],
        [side for at, part in enumerate(parts) for side in sides_of(at, part)],
        base_load(frame, parts, places),
        groups_of(frame, parts, places),
        [scale_of(part) for part in parts],
        [tuple([times(bound, part.square) for bound in part.error]) for part in parts],
        [True for _ in parts],
    )


def asked_rows(frame):
    """Return a list of rows, one for each asked movement."""
    places = places_of(free_movements(frame))
    return [joint_row(places, find(frame.joints, asked.joint), asked.along) for asked in frame.asked]


def free_movements(frame):
    """Return the list of free movements: pairs of a joint's index and a direction."""
    return [(at, way) for at, joint in enumerate(frame.joints) for way in (0, 1) if joint.held[way] is None]


def places_of(free):
    """Return the places of the free movements."""
    return {movement: place for place, movement in enumerate(free)}


def joint_row(places, joint, amounts):
    """Return the row of two amounts at a joint; the ones in held directions are left out."""
    return make_row({places[(joint, way)]: amounts[way] for way in (0, 1) if (joint, way) in places})


def part_row(places, part):
    """Return the row of a component."""
    return add_rows([joint_row(places, joint, amounts) for joint, amounts in part.pulls()])


def factor_of(part):
    """Return the bounds of a component's factor."""
    lower, upper = part.section.stiff
    return (over(times(part.low, part.square), upper), over(times(part.high, part.square), lower))


def sides_of(at, part):
    """Return both sides of a component."""
    section = part.section
    found = []
    for sign, strength, word in ((1, section.pull, "pull"), (-1, section.push, "push")):
        sure = over(times(section.factor[0], strength), part.high)
        most = over(times(section.factor[1], strength), part.low)
        found.append(Side(at, sign, sure, most, section.breaks in (word, "both")))
    return found


def scale_of(part):
    """Return the scale of a component."""
    section = part.section
    return over(times(section.factor[1], greater_one(section.pull, section.push)), part.low)


def base_load(frame, parts, places):
    """Return the load that is always there."""
    dead = case_load(frame, parts, places, frame.dead)
    weights = [row for part in parts for row in weight_rows(frame, part, places)]
    return Load(add_rows([dead.force, *weights]), dead.strain)


def weight_rows(frame, part, places):
    """Return the rows of the halves of a member's weight at its ends."""
    weight = times(times(part.section.weight, part.high), HALF)
    pull = tuple([times(weight, number) for number in frame.gravity])
    return [joint_row(places, joint, pull) for joint in part.ends]


def case_load(frame, parts, places, case):
    """Return the Load of a case."""
    forces = [joint_row(places, find(frame.joints, name), (x, y)) for name, x, y in case.forces]
    strains = []
    for name, amount in case.heats:
        at = find(frame.members, name)
        strains.append(make_row({at: times(parts[at].square, amount)}))
    return Load(add_rows(forces), add_rows(strains))


def groups_of(frame, parts, places):
    """Return the groups of loads: those of the frame, and then those of all settling."""
    groups = [[case_load(frame, parts, places, case) for case in group.cases] for group in frame.groups]
    for at, joint in enumerate(frame.joints):
        for way, settling in enumerate(joint.held):
            if settling is not None and settling != NOTHING:
                groups.append(settling_loads(parts, at, way, settling))
    return groups


def settling_loads(parts, joint, way, settling):
    """Return the loads of a held direction that moves by its bounds."""
    lower, upper = settling
    bounds = [lower] if lower == upper else [lower, upper]
    return [Load((), settling_strain(parts, joint, way, bound)) for bound in bounds]


def settling_strain(parts, joint, way, movement):
    """Return the row of strains from outside that a movement of a held direction gives."""
    strains = {}
    for at, part in enumerate(parts):
        for end, amounts in part.pulls():
            if end == joint:
                strains[at] = negative(times(movement, amounts[way]))
    return make_row(strains)
