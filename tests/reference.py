"""The points on structures and papers once more, plainly and with fractions, for comparison."""

from fractions import Fraction
from itertools import combinations
from math import isqrt


def frac(a):
    return Fraction(a[0], a[1])


def pair(number):
    number = Fraction(number)
    return (number.numerator, number.denominator)


def below(x):
    return Fraction(isqrt(x.numerator * 10 ** 12 // x.denominator), 10 ** 6) if x > 0 else Fraction(0)


def above(x):
    root = below(x)
    return root if x <= root * root or x <= 0 else root + Fraction(1, 10 ** 6)


def first_named(items, name):
    return next(at for at, item in enumerate(items) if item.name == name)


def row(amounts):
    return tuple((at, pair(amounts[at])) for at in sorted(amounts) if amounts[at] != 0)


# Part 5: all attributes of the structure of a frame.


def structure_of(frame):
    free = [(j, way) for j, joint in enumerate(frame.joints) for way in (0, 1) if joint.held[way] is None]
    bars = []
    for member in frame.members:
        a, b = first_named(frame.joints, member.first), first_named(frame.joints, member.second)
        d = [frac(q) - frac(p) for p, q in zip(frame.joints[a].place, frame.joints[b].place)]
        bars.append((a, b, d, sum(x * x for x in d), frame.sections[first_named(frame.sections, member.section)]))
    found = {"free": tuple(free), "rows": [], "factors": [], "sides": [], "scale": [], "errors": []}
    for k, (a, b, d, q, section) in enumerate(bars):
        low, high = below(q), above(q)
        part = {free.index((a, way)): -d[way] for way in (0, 1) if (a, way) in free}
        part.update({free.index((b, way)): d[way] for way in (0, 1) if (b, way) in free})
        found["rows"].append(row(part))
        soft, hard = (frac(x) for x in section.stiff)
        found["factors"].append((pair(low * q / hard), pair(high * q / soft)))
        little, much = (frac(x) for x in section.factor)
        for sign, strength, word in ((1, frac(section.pull), "pull"), (-1, frac(section.push), "push")):
            found["sides"].append((k, sign, pair(little * strength / high), pair(much * strength / low),
                                   section.breaks == "both" or section.breaks == word))
        found["scale"].append(pair(much * max(frac(section.pull), frac(section.push)) / low))
        found["errors"].append(tuple(pair(frac(x) * q) for x in frame.members[k].error))
    found["base"], found["groups"] = base_of(frame, free, bars), groups_of(frame, free, bars)
    return found


def load_of(frame, free, bars, case, weights=()):
    force, strain = {}, {}
    for joint, x, y in [(first_named(frame.joints, name), frac(x), frac(y)) for name, x, y in case.forces] + [*weights]:
        for way, amount in ((0, x), (1, y)):
            if (joint, way) in free:
                at = free.index((joint, way))
                force[at] = force.get(at, 0) + amount
    for name, amount in case.heats:
        at = first_named(frame.members, name)
        strain[at] = strain.get(at, 0) + bars[at][3] * frac(amount)
    return (row(force), row(strain))


def base_of(frame, free, bars):
    x, y = (frac(a) for a in frame.gravity)
    weights = []
    for a, b, _, q, section in bars:
        half = frac(section.weight) * above(q) / 2
        weights += [(a, half * x, half * y), (b, half * x, half * y)]
    return load_of(frame, free, bars, frame.dead, weights)


def groups_of(frame, free, bars):
    groups = [tuple(load_of(frame, free, bars, case) for case in group.cases) for group in frame.groups]
    for j, joint in enumerate(frame.joints):
        for way in (0, 1):
            if joint.held[way] is not None and joint.held[way] != ((0, 1), (0, 1)):
                loads = []
                for m in sorted(set(frac(bound) for bound in joint.held[way])):
                    strain = {k: -m * (-d[way] if a == j else d[way])
                              for k, (a, b, d, _, _) in enumerate(bars) if j in (a, b)}
                    loads.append(((), row(strain)))
                groups.append(tuple(loads))
    return tuple(groups)


# Parts 6 and 7: about objects of the program, with numbers as fractions.


class Model:
    """A structure with fractions in place of ratios."""

    def __init__(self, structure):
        self.structure = structure
        self.many = len(structure.rows)
        self.free = len(structure.free)
        self.rows = [[frac(dict(r).get(p, (0, 1))) for p in range(self.free)] for r in structure.rows]
        self.factors = [tuple(frac(x) for x in bounds) for bounds in structure.factors]
        self.errors = [tuple(frac(x) for x in bounds) for bounds in structure.errors]
        self.scale = [frac(x) for x in structure.scale]
        self.here = [k for k in range(self.many) if structure.there[k]]

    def full(self, given):
        """Forces and movements as fractions, filled."""
        forces, movements = ([frac(x) for x in values] for values in given)
        forces = [forces[k] if k < len(forces) and k in self.here else Fraction(0) for k in range(self.many)]
        return forces, (movements + [Fraction(0)] * self.free)[:self.free]

    def forces_on(self, forces):
        return [sum(forces[k] * self.rows[k][p] for k in self.here) for p in range(self.free)]

    def is_balanced(self, given, load):
        added = self.forces_on(self.full(given)[0])
        return added == [frac(dict(load.force).get(p, (0, 1))) for p in range(self.free)]

    def strains(self, movements):
        return [sum(n * u for n, u in zip(self.rows[k], movements)) if k in self.here else Fraction(0)
                for k in range(self.many)]

    def own(self, given, load):
        strains = self.strains(self.full(given)[1])
        return [strains[k] - frac(dict(load.strain).get(k, (0, 1))) if k in self.here else Fraction(0)
                for k in range(self.many)]

    def misfit(self, k, s, e):
        return max(f * s * s - 2 * s * e + e * e / f for f in self.factors[k])

    def apart(self, given, load):
        forces, own = self.full(given)[0], self.own(given, load)
        return sum(self.misfit(k, forces[k], own[k]) for k in self.here)

    def rise(self, k, sign, given, load):
        forces, own = self.full(given)[0], self.own(given, load)
        middle = sign * forces[k] + max(sign * own[k] / f for f in self.factors[k])
        return (middle + above(self.apart(given, load) / self.factors[k][0])) / 2

    def idle(self, p):
        touching = [k for k in range(self.many) if self.rows[k][p] != 0]
        return touching != [] and not any(k in self.here for k in touching)

    def height(self, paper, side):
        found = side.sign * self.full(paper.base)[0][side.component]
        for g, loads in enumerate(self.structure.groups):
            found += max(self.rise(side.component, side.sign, at(paper.pairs, g, i), load)
                         for i, load in enumerate(loads))
        return found

    def loads(self, paper):
        """All loads with their pairs."""
        found = [(paper.base, self.structure.base)]
        for g, loads in enumerate(self.structure.groups):
            found += [(at(paper.pairs, g, i), load) for i, load in enumerate(loads)]
        return found

    def yields_end(self, paper):
        if frac(paper.margin) <= 0 or not all(self.is_balanced(given, load) for given, load in self.loads(paper)):
            return False
        return all(self.height(paper, side) + frac(paper.margin) * self.scale[side.component] <= frac(side.sure)
                   for side in self.structure.sides)

    def start(self, paper):
        forces, own = self.full(paper.base)[0], self.own(paper.base, self.structure.base)
        return sum(max(self.misfit(k, forces[k], own[k] - error) for error in self.errors[k]) for k in self.here)

    def kept_away(self, paper, side, amount):
        return self.height(paper, side) + above(amount / self.factors[side.component][0]) <= frac(side.sure)

    def shift(self, v, given, load):
        forces, own = self.full(given)[0], self.own(given, load)
        first = sum(max(f * v[k] * forces[k] for f in self.factors[k]) + v[k] * own[k] for k in self.here)
        first += above(self.apart(given, load) * sum(self.factors[k][1] * v[k] * v[k] for k in self.here))
        return first / 2 + sum(v[k] * frac(strain) for k, strain in load.strain)

    def movement_bounds(self, paper, unit, load, total):
        v = self.full(unit)[0]
        share = {k: max(self.rise(k, sign, unit, load) for sign in (1, -1)) for k in self.here}
        slip = max([share[k] / self.scale[k] for k in self.here], default=0)
        wrong = sum(share[k] * max(self.errors[k][1], -self.errors[k][0]) for k in self.here)
        sums = []
        for way in ([-x for x in v], v):
            sums.append(self.shift(way, paper.base, self.structure.base) + wrong + slip * total)
            for g, loads in enumerate(self.structure.groups):
                sums[-1] += max(self.shift(way, at(paper.pairs, g, i), load) for i, load in enumerate(loads))
        return -sums[0], sums[1]


def at(pairs, g, i):
    return pairs[g][i] if g < len(pairs) and i < len(pairs[g]) else ((), ())


def loss_sets(losable, lose):
    found = [chosen for many in range(lose + 1) for chosen in combinations(losable, many)]
    return sorted(found, key=lambda chosen: [member in chosen for member in losable])


def walk(structures, losable, lose, papers):
    """The sets that come up and the greatest sum; structures are what is left, by sets."""
    sets = []

    def leap(model, first, second):
        before, behind = model.full(first.base)[0], model.full(second.base)[0]
        return above(sum(model.factors[k][1] * (before[k] - behind[k]) ** 2 for k in model.here))

    def visit(lost, r, more, weak):
        sets.append(lost)
        model, paper = Model(structures[lost]), papers[lost]
        weak = weak | {side.component for side in structures[lost].sides
                       if side.breaks and not model.kept_away(paper, side, r * r)}
        sums = [Fraction(0)]
        for k in range(model.many):
            if k not in lost and (k in weak or (k in losable and more > 0)):
                further = tuple(sorted(lost + (k,)))
                farther = r + leap(Model(structures[further]), paper, papers[further])
                sums.append(visit(further, farther, more - (k not in weak), weak))
        return r * r / (2 * frac(paper.margin)) + max(sums)

    greatest = visit((), above(Model(structures[()]).start(papers[()])), lose, frozenset())
    return sets, greatest
