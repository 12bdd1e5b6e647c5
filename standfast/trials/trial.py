"""Trials: one true structure, moment by moment."""

from standfast.errors import InvalidFactors, InvalidLoss, InvalidShares, TrialEnded
from standfast.papers.losses import without
from standfast.ratios import ONE, ZERO, less, minus, plus, size, times, total, with_sign
from standfast.structure.balance import strains_by
from standfast.structure.model import add_loads, times_load
from standfast.structure.rows import row_at
from standfast.trials.forces import next_forces, next_movements
from standfast.trials.state import Truth, fits


class Trial:
    """One true structure: what is left of it, what has yielded, and the forces and movements of the last moment."""

    def __init__(self, structure, truth):
        if not fits(structure, truth):
            raise InvalidFactors("the truth does not fit the structure")
        self.whole = structure
        self.truth = Truth(truth.factors, truth.strengths, truth.errors)
        self.gone = []
        self.left = structure
        self.left_strengths = list(self.truth.strengths)
        self.now_forces = tuple([ZERO] * len(structure.rows))
        self.now_movements = tuple([ZERO] * len(structure.free))
        self.own_yielded = self.truth.errors
        self.all_yielded = ZERO
        self.passed = 0
        self.is_over = False

    def step(self, shares):
        """Go on by one moment with shares of all loads; return True, or False if the trial ends."""
        self.check_going()
        if not are_shares(self.whole, shares):
            raise InvalidShares("these are no shares of the loads of each group")
        load = mixture(self.whole, shares)
        limits = [None if side.breaks else strength for side, strength in zip(self.left.sides, self.left_strengths)]
        slack = tuple([plus(yielded, row_at(load.strain, at)) for at, yielded in enumerate(self.own_yielded)])
        forces = next_forces(self.left, self.truth.factors, limits, slack, load)
        movements = None
        if forces is not None:
            movements = next_movements(self.left, self.truth.factors, limits, slack, forces)
        if movements is None:
            self.is_over = True
            return False
        self.go_on(forces, movements, slack)
        return True

    def go_on(self, forces, movements, slack):
        """Take over forces and movements, and what yields with them."""
        strains = strains_by(self.left, movements)
        yielded = list(self.own_yielded)
        amounts = [self.all_yielded]
        for at, is_there in enumerate(self.left.there):
            if is_there:
                further = minus(minus(strains[at], times(self.truth.factors[at], forces[at])), slack[at])
                yielded[at] = plus(yielded[at], further)
                amounts.append(times(size(further), self.whole.scale[at]))
        self.all_yielded = total(amounts)
        self.own_yielded = tuple(yielded)
        self.now_forces = forces
        self.now_movements = movements
        self.passed += 1

    def lose(self, member):
        """Lose a member."""
        self.check_going()
        if not 0 <= member < len(self.whole.rows) or not self.left.there[member]:
            raise InvalidLoss("there is no such member, or it is lost already")
        self.gone.append(member)
        self.left = without(self.whole, self.gone, [])
        self.left_strengths = [strength for side, strength in zip(self.whole.sides, self.truth.strengths)
                               if side.component not in self.gone]
        self.now_forces = tuple([ZERO if at == member else force for at, force in enumerate(self.now_forces)])

    def forces(self):
        """Return the forces, a tuple."""
        return self.now_forces

    def movements(self):
        """Return the movements, a tuple."""
        return self.now_movements

    def yielded(self):
        """Return what has yielded in all."""
        return self.all_yielded

    def broken(self):
        """Return the list of the indices of broken members, ascending."""
        found = {}
        for side, strength in zip(self.left.sides, self.left_strengths):
            if side.breaks and less(strength, with_sign(side.sign, self.now_forces[side.component])):
                found[side.component] = True
        return sorted(found)

    def lost(self):
        """Return the list of lost members in the order in which they were lost."""
        return list(self.gone)

    def moments(self):
        """Return the number of moments."""
        return self.passed

    def has_ended(self):
        """Return True if the trial has ended."""
        return self.is_over

    def fork(self):
        """Return a new trial in the same state."""
        made = Trial(self.whole, self.truth)
        made.gone = list(self.gone)
        made.left = self.left
        made.left_strengths = self.left_strengths
        made.now_forces = self.now_forces
        made.now_movements = self.now_movements
        made.own_yielded = self.own_yielded
        made.all_yielded = self.all_yielded
        made.passed = self.passed
        made.is_over = self.is_over
        return made

    def check_going(self):
        """Refuse to go on if the trial has ended."""
        if self.is_over:
            raise TrialEnded("the trial has ended")


def are_shares(structure, shares):
    """Return True if there are shares for each group: one of at least 0 for each load, which add up to 1."""
    if len(shares) != len(structure.groups):
        return False
    return all([are_shares_of(loads, several) for loads, several in zip(structure.groups, shares)])


def are_shares_of(loads, several):
    """Return True if there is a share of at least 0 for each load, and they add up to 1."""
    return len(several) == len(loads) and not any([less(share, ZERO) for share in several]) and total(several) == ONE


def mixture(structure, shares):
    """Return the base load plus all loads of all groups, each multiplied by its share."""
    loads = [structure.base]
    for group, several in zip(structure.groups, shares):
        loads.extend([times_load(load, share) for load, share in zip(group, several)])
    return add_loads(loads)
