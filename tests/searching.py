"""The points on the judge and on what the program finds once more, plainly: all conditions written out, in fractions."""

from fractions import Fraction
from itertools import product

import standfast.finding.verdict as verdict_module
import standfast.papers.judge as judge_module
from reference import Model, above, below, frac, loss_sets, pair
from reference import walk as reference_walk
from standfast.elastic.pairs import pair_of
from standfast.frames.reading import read_frame
from standfast.frames.writing import write_frame
from standfast.papers.ground import Site
from standfast.papers.movements import unit_load
from standfast.papers.yielding import YieldPaper
from standfast.programs.nearest import greatest, nearest


def exactly(numbers, bound):
    return (tuple(pair(x) for x in numbers), pair(bound), True)


def at_most(numbers, bound):
    return (tuple(pair(x) for x in numbers), pair(bound), False)


def at_least(numbers, bound):
    return at_most([-x for x in numbers], -bound)


def unit(many, place, amount=1):
    return [Fraction(amount) if k == place else Fraction(0) for k in range(many)]


def all_choices(structure):
    return [list(choice) for choice in product(*(range(len(loads)) for loads in structure.groups))]


def pulls(structure, choice, base=True):
    """What a choice pulls with at each free movement."""
    found = [Fraction(0)] * len(structure.free)
    loads = [structure.base] * base + [loads[index] for index, loads in zip(choice, structure.groups)]
    for load in loads:
        for place, amount in load.force:
            found[place] += frac(amount)
    return found


def balance(model, force):
    return [exactly([model.rows[k][p] for k in model.here], force[p]) for p in range(model.free)]


def within(model, limits):
    """The conditions on the forces of the components that are there; limits are fractions or None."""
    found = []
    for side, limit in zip(model.structure.sides, limits):
        if limit is not None:
            found.append(at_most([side.sign * (k == side.component) for k in model.here], limit))
    return found


def spread_out(model, values):
    """Values of the components that are there, with 0 for all others."""
    found = [(0, 1)] * model.many
    for k, value in zip(model.here, values):
        found[k] = value
    return tuple(found)


def bearing_forces(structure, choice, limits):
    model = Model(structure)
    values = nearest(balance(model, pulls(structure, choice)) + within(model, limits), len(model.here))
    return None if values is None else spread_out(model, values)


def movement_and_amounts(structure, force, prices):
    """The nearest movements and amounts of [78] and [81]; sides without a price have the amount 0."""
    model = Model(structure)
    free, sides = model.free, structure.sides
    many = free + len(sides)
    conditions = []
    for k in model.here:
        signs = [side.sign * (side.component == k) for side in sides]
        conditions.append(exactly([-x for x in model.rows[k]] + signs, 0))
    for s, price in enumerate(prices):
        conditions.append(at_least(unit(many, free + s), 0))
        if price is None:
            conditions.append(exactly(unit(many, free + s), 0))
    conditions.append(at_least(list(force) + [-(price or 0) for price in prices], 1))
    values = nearest(conditions, many)
    if values is None:
        return None
    entries = [[(place, value) for place, value in enumerate(part) if value != (0, 1)]
               for part in (values[:free], values[free:])]
    return entries[0], entries[1]


def found_fall(structure):
    for choice in all_choices(structure):
        found = movement_and_amounts(structure, pulls(structure, choice), [frac(side.most) for side in structure.sides])
        if found is not None:
            return (choice, *found)
    return None


def raising(structure, limits):
    model = Model(structure)
    base, many = pulls(structure, [], True), len(model.here)
    if nearest(balance(model, base) + within(model, limits), many) is None:
        return ("short", None)
    found = []
    for choice in all_choices(structure):
        force = pulls(structure, choice, False)
        conditions = [at_least(unit(1 + many, 0), 0)]
        for p in range(model.free):
            conditions.append(exactly([-force[p]] + [model.rows[k][p] for k in model.here], base[p]))
        for numbers, bound, _ in within(model, limits):
            conditions.append((((0, 1), *numbers), bound, False))
        found.append(greatest(conditions, 1 + many))
    found = [frac(a) for a in found if a is not None]
    return ("up to", pair(min(found))) if found else ("endless", None)


def pairs_of(structure):
    return [[pair_of(structure, load) for load in loads] for loads in structure.groups]


def is_complete(pairs):
    return not any(item is None for group in pairs for item in group)


def found_yield_paper(structure):
    base, pairs = pair_of(structure, structure.base), pairs_of(structure)
    if base is None or not is_complete(pairs):
        return None
    model = Model(structure)
    many = len(model.here)
    rises = YieldPaper(((), base[1]), pairs, (1, 1))
    spares = [frac(side.sure) - model.height(rises, side) for side in structure.sides]
    balanced = balance(model, pulls(structure, []))
    conditions = [(((0, 1), *numbers), bound, True) for numbers, bound, _ in balanced]
    for side, spare in zip(structure.sides, spares):
        conditions.append(at_most([model.scale[side.component]] + [side.sign * (k == side.component) for k in model.here],
                                  spare))
    found = greatest(conditions, 1 + many)
    if found is not None and found[0] <= 0:
        return None
    margin = Fraction(1) if found is None else frac(found) / 2
    limits = [spare - margin * model.scale[side.component] for side, spare in zip(structure.sides, spares)]
    forces = spread_out(model, nearest(balanced + within(model, limits), many))
    return YieldPaper((forces, base[1]), pairs, pair(margin))


def hardest(model, pairs, side):
    choice, rises = [], []
    for g, loads in enumerate(model.structure.groups):
        against = [model.rise(side.component, -side.sign, pairs[g][i], load) for i, load in enumerate(loads)]
        choice.append(against.index(min(against)))
        rises.append(min(against))
    return tuple(choice), frac(side.most) + sum(rises)


def found_turns(structure):
    base, pairs = pair_of(structure, structure.base), pairs_of(structure)
    if base is None or not is_complete(pairs):
        return None
    model = Model(structure)
    loads = [hardest(model, pairs, side) for side in structure.sides]
    prices = [None if side.breaks else lack for side, (_, lack) in zip(structure.sides, loads)]
    found = movement_and_amounts(structure, pulls(structure, []), prices)
    if found is None:
        return None
    return [(s, loads[s][0], amount) for s, amount in found[1]], found[0], pairs


def found_bounds(site):
    """Set papers by sets in the order of the walk, and the sets and the greatest sum; or None."""
    papers, units, structures = {}, {}, {}

    class Missing(Exception):
        pass

    class Papers(dict):
        def __missing__(self, lost):
            if len(papers) > 40:
                raise Missing
            structures[lost] = site.behind(lost)
            made = found_yield_paper(structures[lost])
            units[lost] = [pair_of(structures[lost], unit_load(row)) for row in site.asked]
            if made is None or None in units[lost]:
                raise Missing
            papers[lost] = self[lost] = made
            return made

    given = Papers()
    try:
        given[()]
        sets, total = reference_walk(Structures(site), site.losable, site.lose, given)
    except Missing:
        return None
    if len(sets) > 300:
        return None
    return [(lost, papers[lost], tuple(units[lost])) for lost in papers], sets, total


class Structures(dict):
    """What is left behind the loss of sets."""

    def __init__(self, site):
        super().__init__()
        self.site = site

    def __missing__(self, lost):
        self[lost] = self.site.behind(lost)
        return self[lost]


def judged(site, sets):
    """The total and the bounds of accepted set papers (lost, paper, units), or None."""
    papers = {lost: paper for lost, paper, _ in sets}
    units = {lost: given for lost, _, given in sets}
    if len(papers) != len(sets) or any(frac(paper.margin) <= 0 for paper in papers.values()):
        return None
    try:
        passed, total = reference_walk(Structures(site), site.losable, site.lose, papers)
    except KeyError:
        return None
    if len(passed) > 300:
        return None
    bounds = []
    for lost in set(passed):
        model = Model(site.behind(lost))
        if not model.yields_end(papers[lost]) or len(units[lost]) != len(site.asked):
            return None
        if not all(model.is_balanced(given, unit_load(row)) for given, row in zip(units[lost], site.asked)):
            return None
        bounds.append([model.movement_bounds(papers[lost], given, unit_load(row), total)
                       for given, row in zip(units[lost], site.asked)])
    return total, [(min(b[a][0] for b in bounds), max(b[a][1] for b in bounds)) for a in range(len(site.asked))]


def found_borne(site):
    if any(side.breaks for side in site.structure.sides):
        return None
    found = []
    for lost in loss_sets(site.losable, site.lose):
        structure = site.behind(lost)
        sure = [frac(side.sure) for side in structure.sides]
        found.append(tuple(bearing_forces(structure, choice, sure) for choice in all_choices(structure)))
        if None in found[-1]:
            return None
    return tuple(found)


# Points [90] to [98]: lists are pairs of names of members and names of sections.


def list_of(lists, name):
    return next((at for at, (members, _) in enumerate(lists) if name in members), None)


def section_named(frame, name):
    return next(section for section in frame.sections if section.name == name)


def with_choice(frame, lists, choice):
    """The written form of the frame with a choice."""
    lines = []
    for line in write_frame(frame).splitlines():
        words = line.split()
        if words[0] == "member" and list_of(lists, words[1]) is not None:
            at = list_of(lists, words[1])
            words[4] = lists[at][1][choice[at]]
        lines.append(" ".join(words) + "\n")
    return "".join(lines)


def square_of(frame, member):
    places = [next(joint.place for joint in frame.joints if joint.name == name) for name in (member.first, member.second)]
    return sum((frac(q) - frac(p)) ** 2 for p, q in zip(*places))


def weight_of(frame):
    return sum(frac(section_named(frame, m.section).weight) * above(square_of(frame, m)) for m in frame.members)


def least_weight(frame, lists, box):
    return min(weight_of(read_frame(with_choice(frame, lists, choice))) for choice in product(*box))


def costs(frame, member, section):
    """What pull and push cost for each length along them."""
    low = below(square_of(frame, member))
    return [frac(section.factor[1]) * frac(strength) / low for strength in (section.pull, section.push)]


def fall_holds(frame, lists, box, lost, choice, movement):
    site = Site(read_frame(with_choice(frame, lists, [places[0] for places in box])))
    if lost not in loss_sets(site.losable, site.lose):
        return False
    bare = site.bare(lost)
    if list(choice) not in all_choices(bare):
        return False
    model = Model(bare)
    moved = [sum(frac(a) for place, a in movement if place == p) for p in range(model.free)]
    strains = model.strains(moved)

    def cost(k, name):
        pull, push = costs(frame, frame.members[k], section_named(frame, name))
        return strains[k] * pull if strains[k] > 0 else -strains[k] * push

    spent = sum(cost(k, frame.members[k].section) for k in model.here if list_of(lists, frame.members[k].name) is None)
    for at, (_, names) in enumerate(lists):
        mine = [k for k in model.here if list_of(lists, frame.members[k].name) == at]
        spent += max(sum(cost(k, names[place]) for k in mine) for place in box[at])
    return sum(x * u for x, u in zip(pulls(bare, choice), moved)) > spent


def found_box_fall(frame, lists, box):
    site = Site(frame)
    for lost in loss_sets(site.losable, site.lose):
        model = Model(site.bare(lost))
        for choice in all_choices(model.structure):
            movement = box_movement(frame, lists, box, model, pulls(model.structure, choice))
            if movement is not None:
                return (lost, tuple(choice), movement)
    return None


def box_movement(frame, lists, box, model, force):
    free, here = model.free, model.here
    many = free + 2 * len(here) + len(lists)
    conditions = [at_least(unit(many, column), 0) for column in range(free, free + 2 * len(here))]
    work = [Fraction(x) for x in force] + [Fraction(0)] * (many - free)
    for i, k in enumerate(here):
        numbers = [-x for x in model.rows[k]] + [Fraction(0)] * (many - free)
        numbers[free + 2 * i], numbers[free + 2 * i + 1] = Fraction(1), Fraction(-1)
        conditions.append(exactly(numbers, 0))
        member = frame.members[k]
        if list_of(lists, member.name) is None:
            pull, push = costs(frame, member, section_named(frame, member.section))
            work[free + 2 * i], work[free + 2 * i + 1] = -pull, -push
    for at, (_, names) in enumerate(lists):
        bound = free + 2 * len(here) + at
        work[bound] = Fraction(-1)
        for place in box[at]:
            numbers = unit(many, bound)
            for i, k in enumerate(here):
                if list_of(lists, frame.members[k].name) == at:
                    pull, push = costs(frame, frame.members[k], section_named(frame, names[place]))
                    numbers[free + 2 * i], numbers[free + 2 * i + 1] = -pull, -push
            conditions.append(at_least(numbers, 0))
    values = nearest(conditions + [at_least(work, 1)], many)
    if values is None:
        return None
    return [(place, value) for place, value in enumerate(values[:free]) if value != (0, 1)]


def standing_paper(frame):
    """The paper of a frame that stands, or None."""
    site = Site(frame)
    paper = verdict_module.found_bounds(site)
    if paper is None or not judge_module.accepts(site, paper):
        paper = verdict_module.found_borne(site)
    return paper if paper is not None and judge_module.accepts(site, paper) else None


def search(frame, lists, boxes):
    """Choice, weight, least, paper and tree of [97]."""
    state = {"left": boxes, "best": (None, None, None)}

    def examine(box):
        if state["left"] == 0:
            return ("open",)
        state["left"] -= 1
        fall = found_box_fall(frame, lists, box)
        if fall is not None:
            return ("fall", *fall)
        if state["best"][0] is not None and least_weight(frame, lists, box) >= state["best"][1]:
            return ("heavy",)
        sizes = [len(places) for places in box]
        if all(size == 1 for size in sizes):
            choice = [places[0] for places in box]
            chosen = read_frame(with_choice(frame, lists, choice))
            paper = standing_paper(chosen)
            if paper is None:
                return ("open",)
            state["best"] = (choice, weight_of(chosen), paper)
            return ("heavy",)
        at = sizes.index(max(sizes))
        first = box[at][:sizes[at] // 2]
        parts = [box[:at] + [places] + box[at + 1:] for places in (first, box[at][sizes[at] // 2:])]
        return ("split", at, first, examine(parts[0]), examine(parts[1]))

    box = [tuple(range(len(names))) for _, names in lists]
    tree = examine(box)
    choice, weight, paper = state["best"]
    weights = open_weights(frame, lists, box, tree) + ([] if weight is None else [weight])
    return choice, weight, min(weights, default=None), paper, tree


def open_weights(frame, lists, box, tree):
    if tree[0] == "open":
        return [least_weight(frame, lists, box)]
    if tree[0] != "split":
        return []
    _, at, places, first, second = tree
    others = tuple(place for place in box[at] if place not in places)
    return (open_weights(frame, lists, box[:at] + [places] + box[at + 1:], first)
            + open_weights(frame, lists, box[:at] + [others] + box[at + 1:], second))
