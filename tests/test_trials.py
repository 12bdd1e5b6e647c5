import random
import unittest
from fractions import Fraction
from itertools import combinations

from making import some_frames, structure, whole
from plain import plain
from reference import Model, frac, pair
from searching import at_least, at_most, balance, exactly, unit, within
from standfast.elastic.pairs import loose_movements, pair_of
from standfast.errors import InvalidFactors, InvalidLoss, InvalidShares, TrialEnded
from standfast.papers.losses import left_bare, without
from standfast.programs.nearest import nearest
from standfast.programs.projection import can_be_met
from standfast.ratios import ratio
from standfast.structure.build import build
from standfast.structure.model import Load, Side, Structure
from standfast.trials.forces import next_forces, next_movements
from standfast.trials.state import Truth, fits, middle_truth
from standfast.trials.trial import Trial

TINY = Fraction(1, 10 ** 12)
# A bar along x with the row 4, the factor from 1 to 2 and the scale 2; it bears from 1 to 2 by pull, 1/2 to 1 by push.
BAR = "section s stiff 32 64 pull 8 push 4 factor 1/2 1\njoint a 0 0 x y\njoint b 4 0 y\nmember m a b s error -1/8 1/4\n"
# Bars beside one another with the row 4 and the factor 1, which bear 2 both ways.
SECTION = "section r stiff 64 64 pull 8 push 8\njoint a 0 0 x y\njoint b 4 0 y\n"
TWO = SECTION + "member m a b r\nmember n a b r\n"
GROUP = "group g\ncase at b 12 0\ncase at b -12 0\n"
ONE, ZERO = (1, 1), (0, 1)


class Truths(unittest.TestCase):
    def test_attributes(self):
        made = Truth(factors=[(1, 1)], strengths=[(1, 1), (2, 1)], errors=[])
        self.assertEqual((made.factors, made.strengths, made.errors), (whole(1), whole(1, 2), ()))
        given = [(1, 1)]
        made = Truth(given, given, given)
        given.clear()
        self.assertEqual((made.factors, made.strengths, made.errors), (whole(1), whole(1), whole(1)))

    def test_at_the_bounds_and_beyond_them(self):
        made = structure(BAR)
        # The error lies from -2 to 4.
        good = ([(3, 2)], [(3, 2), (3, 4)], [(1, 1)])
        bounds = ([[(1, 1), (2, 1)]], [[(1, 1), (2, 1)], [(1, 2), (1, 1)]], [[(-2, 1), (4, 1)]])
        self.assertIs(fits(made, Truth(*good)), True)
        for part in range(3):
            for at, (low, high) in enumerate(bounds[part]):
                for value, inside in ((low, True), (high, True), (pair(frac(low) - TINY), False),
                                      (pair(frac(high) + TINY), False)):
                    given = [list(values) for values in good]
                    given[part][at] = value
                    self.assertIs(fits(made, Truth(*given)), inside)

    def test_wrong_lengths(self):
        made = structure(BAR)
        good = [whole(1), whole(1, 1), whole(0)]
        self.assertTrue(fits(made, Truth(*good)))
        for part in range(3):
            for changed in (good[part][1:], (*good[part], ONE), ()):
                given = list(good)
                given[part] = changed
                self.assertIs(fits(made, Truth(*given)), False)
        self.assertTrue(fits(structure(""), Truth((), (), ())))

    def test_middle_truth(self):
        made = structure(BAR)
        truth = middle_truth(made)
        self.assertIs(type(truth), Truth)
        self.assertEqual((truth.factors, truth.strengths, truth.errors), (((3, 2),), ((1, 1), (1, 2)), ((1, 1),)))
        self.assertTrue(fits(made, truth))


def least_forces(made, factors, limits, slack, load):
    """The forces of [87] by all sets of sides that have reached their limits: the best ones in balance and within them."""
    model = Model(made)
    sides = [(side, frac(limit)) for side, limit in zip(made.sides, limits) if limit is not None]
    force = [frac(dict(load.force).get(p, ZERO)) for p in range(model.free)]
    best = None
    for many in range(len(sides) + 1):
        for reached in combinations(sides, many):
            values = bent_least(model, [frac(f) for f in factors], [frac(s) for s in slack], force, reached)
            if values is None or any(side.sign * values[side.component] > limit for side, limit in sides):
                continue
            cost = sum(frac(factors[k]) * values[k] ** 2 / 2 + values[k] * frac(slack[k]) for k in model.here)
            if best is None or cost < best[0]:
                best = (cost, tuple(pair(value) for value in values))
    return None if best is None else best[1]


def bent_least(model, factors, slack, force, reached):
    """The least sum with balance and with sides that are just at their limits, without any others; or None."""
    here = model.here
    rows = [([model.rows[k][p] for k in here], force[p]) for p in range(model.free)]
    rows += [([Fraction(side.sign * (k == side.component)) for k in here], limit) for side, limit in reached]
    # factor t + slack + the sum of multipliers times rows is 0, and the rows hold.
    table = [[factors[k] * (j == i) for j in range(len(here))] + [row[i] for row, _ in rows] + [-slack[k]]
             for i, k in enumerate(here)]
    table += [list(row) + [Fraction(0)] * len(rows) + [amount] for row, amount in rows]
    values = solved(table, len(here) + len(rows))
    if values is None:
        return None
    found = [Fraction(0)] * model.many
    for i, k in enumerate(here):
        found[k] = values[i]
    return found


def solved(table, many):
    """Some solution of equations, or None."""
    table = [[Fraction(x) for x in row] for row in table]
    pivots = []
    for column in range(many):
        at = next((r for r in range(len(pivots), len(table)) if table[r][column] != 0), None)
        if at is None:
            continue
        top = len(pivots)
        table[top], table[at] = table[at], table[top]
        table[top] = [x / table[top][column] for x in table[top]]
        for r in range(len(table)):
            if r != top and table[r][column] != 0:
                table[r] = [x - table[r][column] * y for x, y in zip(table[r], table[top])]
        pivots.append(column)
    if any(row[-1] != 0 for row in table[len(pivots):]):
        return None
    values = [Fraction(0)] * many
    for r, column in enumerate(pivots):
        values[column] = table[r][-1]
    return values


class NextForces(unittest.TestCase):
    def check(self, made, limits, slack, load, forces, factors=None):
        given = factors or tuple(low for low, _ in made.factors)
        self.assertEqual(next_forces(made, given, limits, slack, load), forces)

    def test_one_bar(self):
        made, load = structure(BAR), Load(((0, (4, 1)),), ())
        self.check(made, [(5, 1), (5, 1)], whole(0), load, whole(1))
        self.check(made, [(1, 1), (5, 1)], whole(9), load, whole(1))
        self.check(made, [(999, 1000), (5, 1)], whole(0), load, None)
        self.check(made, [None, (5, 1)], whole(0), load, whole(1))
        self.check(made, [(1, 1), (-1, 1)], whole(0), load, whole(1))
        self.check(made, [(1, 1), (-2, 1)], whole(0), load, None)

    def test_two_bars(self):
        made, load = structure(TWO), Load(((0, (12, 1)),), ())
        # The forces add up to 3. With slack in the first bar it gets less: t + 1 is 3 - t.
        self.check(made, whole(2, 2, 2, 2), whole(0, 0), load, ((3, 2), (3, 2)))
        self.check(made, whole(2, 2, 2, 2), whole(1, 0), load, whole(1, 2))
        self.check(made, whole(2, 2, 2, 2), whole(2, 0), load, whole(1, 2))
        self.check(made, whole(2, 2, 2, 2), whole(-5, 0), load, whole(2, 1))
        self.check(made, [(2, 1), (2, 1), None, (2, 1)], whole(2, 0), load, ((1, 2), (5, 2)))
        self.check(made, [None] * 4, whole(40, 0), load, ((-37, 2), (43, 2)))
        self.check(made, [None, (3, 1), None, None], whole(40, 0), load, whole(-3, 6))
        self.check(made, [None, (3, 1), (5, 1), None], whole(40, 0), load, whole(-2, 5))
        self.check(made, [(1, 1), (2, 1), (1, 1), (2, 1)], whole(0, 0), load, None)
        self.check(made, [(1, 1), (2, 1), (2, 1), (2, 1)], whole(0, 0), load, whole(1, 2))
        # With the factors 2 and 1: 2 t is 3 - t.
        self.check(made, whole(2, 2, 2, 2), whole(0, 0), load, whole(1, 2), whole(2, 1))

    def test_three_bars(self):
        made = structure(TWO + "member o a b r\n")
        load = Load(((0, (12, 1)),), ())
        self.check(made, [None] * 6, whole(0, 0, 3), load, whole(2, 2, -1))
        self.check(made, [(3, 2), None, None, None, None, None], whole(0, 0, 3), load, ((3, 2), (9, 4), (-3, 4)))
        self.check(made, [(1, 1), None, (1, 1), None, (1, 1), None], whole(0, 0, 3), load, whole(1, 1, 1))
        self.check(made, [(1, 1), None, (1, 1), None, (9, 10), None], whole(0, 0, 3), load, None)

    def test_nothing_is_there(self):
        made = structure(TWO)
        self.check(left_bare(made, [0]), [(5, 1), (5, 1)], whole(99, 0), Load(((0, (12, 1)),), ()), whole(0, 3))
        self.check(left_bare(made, [0, 1]), [], whole(0, 0), Load((), ()), whole(0, 0))
        self.check(structure(""), [], (), Load((), ()), ())

    def test_a_force_at_an_idle_movement(self):
        made = left_bare(structure(TWO), [0, 1])
        self.check(made, [], whole(0, 0), Load(((0, (1, 1)),), ()), None)

    def test_a_loose_structure(self):
        made = structure(TWO.replace("joint b 4 0 y", "joint b 4 0"))
        for load in (Load((), ()), Load(((0, (1, 1)),), ()), Load(((1, (1, 1)),), ())):
            self.check(made, [None] * 4, whole(0, 0), load, None)

    def test_strains_of_the_load_count_by_the_slack_alone(self):
        made = structure(TWO)
        self.check(made, [None] * 4, whole(0, 0), Load(((0, (12, 1)),), ((0, (9, 1)),)), ((3, 2), (3, 2)))


class NextMovements(unittest.TestCase):
    def check(self, made, limits, slack, forces, movements):
        factors = tuple(low for low, _ in made.factors)
        self.assertEqual(next_movements(made, factors, limits, slack, forces), movements)

    def test_nothing_yields(self):
        made = structure(TWO)
        # Strains are 4 u, and the forces and the slack.
        self.check(made, whole(3, 3, 3, 3), whole(1, 0), whole(1, 2), ((1, 2),))
        self.check(made, whole(3, 3, 3, 3), whole(2, 0), whole(1, 2), None)

    def test_sides_that_have_reached_their_strength(self):
        made = structure(TWO)
        # The first bar yields by pull: its strain is at least 2. The other one says that it is 3.
        self.check(made, whole(2, 5, 5, 5), whole(0, 1), whole(2, 2), ((3, 4),))
        self.check(made, whole(2, 5, 5, 5), whole(0, -1), whole(2, 2), None)
        # By push it is at most that.
        self.check(made, whole(5, 2, 5, 5), whole(0, -1), whole(-2, -2), ((-3, 4),))
        self.check(made, whole(5, 2, 5, 5), whole(0, 1), whole(-2, -2), None)
        # A side that breaks has no limit.
        self.check(made, [None, (2, 1), (5, 1), (5, 1)], whole(0, 1), whole(2, 2), None)

    def test_nearest_to_nothing(self):
        made = structure(TWO)
        self.check(made, whole(2, 5, 2, 5), whole(0, 1), whole(2, 2), ((3, 4),))
        self.check(made, whole(2, 5, 2, 5), whole(0, 9), whole(2, 2), ((11, 4),))
        self.check(made, whole(2, 5, 2, 5), whole(-3, -4), whole(2, 2), ((0, 1),))
        self.check(made, whole(2, 5, 5, 2), whole(0, 0), whole(2, -2), None)
        self.check(made, whole(2, 5, 5, 2), whole(-2, 2), whole(2, -2), ((0, 1),))
        self.check(made, whole(2, 5, 5, 2), whole(-3, 1), whole(2, -2), ((-1, 4),))

    def test_both_sides(self):
        # At least and at most: the strain of the first bar is just its slack.
        made = structure(TWO)
        self.check(made, whole(0, 0, 5, 5), whole(9, 1), whole(0, 1), None)
        self.check(made, whole(0, 0, 5, 5), whole(2, 1), whole(0, 1), ((1, 2),))
        self.check(made, whole(0, 0, 0, 0), whole(9, 1), whole(0, 0), None)
        self.check(made, whole(0, 0, 0, 0), whole(9, 9), whole(0, 0), ((9, 4),))
        self.check(made, whole(0, 5, 5, 5), whole(1, 1), whole(0, 1), ((1, 2),))
        self.check(made, whole(0, 5, 5, 5), whole(9, 1), whole(0, 1), None)
        self.check(made, whole(5, 0, 5, 5), whole(9, 1), whole(0, 1), ((1, 2),))

    def test_idle_movements(self):
        made = left_bare(structure(TWO + "joint c 4 4\nmember o b c r\n"), [2])
        self.check(made, whole(5, 5, 5, 5), whole(1, 0, 7), whole(1, 2, 0), ((1, 2), ZERO, ZERO))
        made = left_bare(structure(TWO), [0, 1])
        self.check(made, [], whole(0, 0), whole(0, 0), whole(0))


class Steps(unittest.TestCase):
    def state(self, trial):
        return (trial.forces(), trial.movements(), trial.yielded(), trial.moments(), trial.broken(), trial.lost(),
                trial.has_ended())

    def test_the_beginning(self):
        made = structure(BAR)
        trial = Trial(made, middle_truth(made))
        self.assertEqual(self.state(trial), (whole(0), whole(0), ZERO, 0, [], [], False))
        trial = Trial(structure(""), Truth((), (), ()))
        self.assertIs(trial.step([]), True)
        self.assertEqual(self.state(trial), ((), (), ZERO, 1, [], [], False))

    def test_a_truth_that_does_not_fit(self):
        made = structure(BAR)
        for truth in (Truth((), (), ()), Truth(whole(3), whole(1, 1), whole(0)), Truth(whole(1), whole(1, 2), whole(0)),
                      Truth(whole(1), whole(1, 1), whole(5))):
            self.assertRaises(InvalidFactors, Trial, made, truth)

    def test_elastic_steps(self):
        made = structure(BAR + "dead at b 2 0\ngroup g\ncase at b 2 0\ncase heat m 1/16\n")
        trial = Trial(made, Truth([(2, 1)], whole(2, 1), whole(1)))
        # The strain is 2 t + 1, and 1 more by heat.
        self.assertIs(trial.step([whole(1, 0)]), True)
        self.assertEqual(self.state(trial), (whole(1), ((3, 4),), ZERO, 1, [], [], False))
        self.assertIs(trial.step([whole(0, 1)]), True)
        self.assertEqual(self.state(trial), (((1, 2),), ((3, 4),), ZERO, 2, [], [], False))
        self.assertIs(trial.step([[(1, 2), (1, 2)]]), True)
        self.assertEqual(self.state(trial), (((3, 4),), ((3, 4),), ZERO, 3, [], [], False))

    def test_yielding_in_both_directions(self):
        # One bar yields at 2, the other one at 1 by pull and 3/2 by push.
        made = structure(SECTION + "section q stiff 64 64 pull 4 push 6\nmember m a b r\nmember n a b q\n" + GROUP)
        trial = Trial(made, middle_truth(made))
        self.assertTrue(trial.step([whole(1, 0)]))
        # 3 = 2 + 1: both have reached what they bear. The first one stays elastic: 4 u is 2, and n yields by 1.
        # Its scale is 3/2.
        self.assertEqual(self.state(trial), (whole(2, 1), ((1, 2),), (3, 2), 1, [], [], False))
        self.assertTrue(trial.step([whole(0, 1)]))
        # -3 = -3/2 - 3/2 both ways: n would be at -2, with t = 4 u - 1. So it yields: m has -3/2, and 4 u is -3/2.
        self.assertEqual(trial.forces(), ((-3, 2), (-3, 2)))
        self.assertEqual(trial.movements(), ((-3, 8),))
        # It yields from 1 to 0: the strain -3/2 minus t.
        self.assertEqual(trial.yielded(), (3, 1))
        self.assertTrue(trial.step([[(1, 2), (1, 2)]]))
        self.assertEqual(self.state(trial), (whole(0, 0), whole(0), (3, 1), 3, [], [], False))

    def test_a_side_that_has_just_reached_its_strength(self):
        made = structure(TWO + "group g\ncase at b 16 0\ncase")
        trial = Trial(made, middle_truth(made))
        self.assertTrue(trial.step([whole(1, 0)]))
        self.assertEqual(self.state(trial), (whole(2, 2), ((1, 2),), ZERO, 1, [], [], False))

    def test_strains_from_outside_and_errors(self):
        made = structure(SECTION + "member m a b r error 0 1/4\nmember n a b r\ngroup g\ncase\ncase heat n 1/4\n")
        trial = Trial(made, Truth(whole(1, 1), whole(2, 2, 2, 2), whole(3, 0)))
        # The first bar is too long by 3: it is pushed by 3/2.
        self.assertTrue(trial.step([whole(1, 0)]))
        self.assertEqual((trial.forces(), trial.movements(), trial.yielded()), (((-3, 2), (3, 2)), ((3, 8),), ZERO))
        # Now the second one is longer by 4.
        self.assertTrue(trial.step([whole(0, 1)]))
        self.assertEqual((trial.forces(), trial.movements()), (((1, 2), (-1, 2)), ((7, 8),)))
        trial = Trial(made, Truth(whole(1, 1), whole(2, 2, 2, 2), whole(0, 0)))
        self.assertTrue(trial.step([whole(0, 1)]))
        self.assertEqual((trial.forces(), trial.movements(), trial.yielded()), (whole(2, -2), ((1, 2),), ZERO))

    def test_yields_by_errors(self):
        made = structure(SECTION + "member m a b r error 0 1/2\nmember n a b r")
        trial = Trial(made, Truth(whole(1, 1), whole(2, 2, 2, 2), whole(6, 0)))
        self.assertTrue(trial.step([]))
        # The bars bear 2: the movement nearest to nothing lets the first one yield by 2, which counts with the scale 2.
        self.assertEqual(self.state(trial), (whole(-2, 2), ((1, 2),), (4, 1), 1, [], [], False))
        self.assertTrue(trial.step([]))
        self.assertEqual(self.state(trial), (whole(-2, 2), ((1, 2),), (4, 1), 2, [], [], False))

    def test_settlings(self):
        made = structure(TWO.replace("joint a 0 0 x y", "joint a 0 0 x -1/2 1/4 y"))
        trial = Trial(made, middle_truth(made))
        for shares, moved in (([ONE, ZERO], (-1, 2)), ([ZERO, ONE], (1, 4)), ([(1, 3), (2, 3)], (0, 1))):
            self.assertTrue(trial.step([shares]))
            self.assertEqual((trial.forces(), trial.movements()), (whole(0, 0), (moved,)))

    def test_shares(self):
        made = structure(TWO + GROUP + "group h\ncase\n")
        trial = Trial(made, middle_truth(made))
        for shares in ([], [whole(1, 0)], [whole(1, 0), whole(1), whole(1)], [whole(1), whole(1)],
                       [whole(1, 0, 0), whole(1)], [whole(1, 1), whole(1)], [whole(0, 0), whole(1)],
                       [whole(2, -1), whole(1)], [whole(1, 0), whole(0)], [[(1, 2), (499, 1000)], whole(1)],
                       [whole(1, 0), ()]):
            self.assertRaises(InvalidShares, trial.step, shares)
            self.assertEqual(trial.moments(), 0)
        given = [[(1, 2), (1, 2)], [ONE]]
        before = plain(given)
        self.assertTrue(trial.step(given))
        self.assertEqual(plain(given), before)


class Ends(unittest.TestCase):
    def check_ended(self, trial, before):
        self.assertEqual((trial.forces(), trial.movements(), trial.yielded(), trial.moments(), trial.lost()), before)
        self.assertIs(trial.has_ended(), True)
        self.assertRaises(TrialEnded, trial.step, [])
        self.assertRaises(TrialEnded, trial.step, [whole(1, 0)])
        self.assertRaises(TrialEnded, trial.lose, 0)
        self.assertRaises(TrialEnded, trial.lose, 99)
        copied = trial.fork()
        self.assertIs(copied.has_ended(), True)
        self.assertRaises(TrialEnded, copied.step, [whole(1, 0)])
        self.assertEqual((trial.forces(), trial.movements(), trial.yielded(), trial.moments(), trial.lost()), before)

    def test_too_much(self):
        made = structure(TWO + "group g\ncase at b 16.001 0\ncase at b 14 0\n")
        trial = Trial(made, middle_truth(made))
        self.assertIs(trial.step([whole(0, 1)]), True)
        self.assertIs(trial.step([whole(1, 0)]), False)
        self.check_ended(trial, (((7, 4), (7, 4)), ((7, 16),), ZERO, 1, []))

    def test_forces_without_movements_that_fit(self):
        # The first bar bears nothing at all, so that it is at the limits of both signs, and is too long by 2.
        made = structure(SECTION + "member m a b r error 0 1/8\nmember n a b r\ngroup g\ncase at b 4 0\ncase at b 8 0")
        sides = [Side(0, sign, ZERO, ONE, False) for sign in (1, -1)] + list(made.sides[2:])
        made = Structure(made.free, made.rows, made.factors, sides, made.base, made.groups, made.scale, made.errors,
                         made.there)
        truth = Truth(whole(1, 1), whole(0, 0, 2, 2), whole(2, 0))
        trial = Trial(made, truth)
        self.assertIs(trial.step([whole(0, 1)]), True)
        self.assertEqual((trial.forces(), trial.movements()), (whole(0, 2), ((1, 2),)))
        self.assertIs(trial.step([whole(1, 0)]), False)
        self.check_ended(trial, (whole(0, 2), ((1, 2),), ZERO, 1, []))

    def test_a_loose_structure(self):
        # The second bar goes from c to b at a slant: alone it lets b move in some direction.
        made = structure(SECTION.replace("joint b 4 0 y", "joint b 4 0\njoint c 1 -3 x y") + "member m a b r\n"
                         "member n c b r\ngroup g\ncase at b 1 1\ncase\n")
        trial = Trial(made, middle_truth(made))
        self.assertTrue(trial.step([whole(1, 0)]))
        before = (trial.forces(), trial.movements())
        self.assertEqual(before[0], ((0, 1), (1, 3)))
        trial.lose(0)
        self.assertIs(trial.step([whole(0, 1)]), False)
        self.check_ended(trial, (*before, ZERO, 1, [0]))

    def test_a_force_at_an_idle_movement(self):
        made = structure(SECTION.replace("joint b 4 0 y", "joint b 4 0\njoint c 4 -3 x y") + "member m a b r\n"
                         "member n c b r\ngroup g\ncase at b 1 0\ncase at b 0 1\n")
        trial = Trial(made, middle_truth(made))
        trial.lose(1)
        self.assertIs(trial.step([whole(1, 0)]), True)
        before = (trial.forces(), trial.movements())
        self.assertEqual(before, (((1, 4), ZERO), ((1, 16), ZERO)))
        self.assertIs(trial.step([[(99, 100), (1, 100)]]), False)
        self.check_ended(trial, (*before, ZERO, 1, [1]))

    def test_sides_that_break_do_not_yield(self):
        text = SECTION.replace("push 8", "push 8 breaks {}") + "member m a b r\n" + GROUP
        for breaks, first, second in (("pull", True, False), ("push", False, True), ("both", True, True)):
            made = structure(text.format(breaks))
            for shares, goes_on in ((whole(1, 0), first), (whole(0, 1), second)):
                trial = Trial(made, middle_truth(made))
                self.assertIs(trial.step([shares]), goes_on)
                self.assertEqual(trial.broken(), [0] if goes_on else [])


class Losses(unittest.TestCase):
    def test_broken_members(self):
        made = structure(TWO.replace("push 8", "push 8 breaks pull") + "group g\ncase at b 16 0\ncase at b 16.001 0\ncase")
        trial = Trial(made, middle_truth(made))
        for shares, broken in ((whole(1, 0, 0), []), (whole(0, 1, 0), [0, 1]), (whole(0, 0, 1), [])):
            self.assertTrue(trial.step([shares]))
            self.assertEqual(trial.broken(), broken)
        self.assertTrue(trial.step([whole(0, 1, 0)]))
        trial.lose(1)
        # What is lost is not broken any more; its force is 0, and movements stay.
        self.assertEqual((trial.broken(), trial.lost(), trial.forces()[1], trial.moments()), ([0], [1], ZERO, 4))
        self.assertEqual(trial.movements(), (pair(Fraction(16001, 32000)),))
        self.assertTrue(trial.step([whole(0, 1, 0)]))
        self.assertEqual(trial.forces(), (pair(Fraction(16001, 4000)), ZERO))
        found = trial.broken()
        found.clear()
        self.assertEqual(trial.broken(), [0])

    def test_a_true_strength_above_what_is_sure(self):
        made = structure(BAR.replace("factor 1/2 1", "factor 1/2 1 breaks both") + "group g\ncase at b 6 0\ncase at b -3 0")
        for strengths, first, second in ((whole(1, 1), [0], []), (whole(2, 1), [], []), (((3, 2), (1, 2)), [], [0])):
            trial = Trial(made, Truth(whole(1), strengths, whole(0)))
            trial.step([whole(1, 0)])
            self.assertEqual(trial.broken(), first)
            trial.step([whole(0, 1)])
            self.assertEqual(trial.broken(), second)

    def test_losses(self):
        made = structure(TWO + GROUP.replace("12", "4"))
        trial = Trial(made, middle_truth(made))
        for member in (-1, 2, 99):
            self.assertRaises(InvalidLoss, trial.lose, member)
        self.assertTrue(trial.step([whole(1, 0)]))
        trial.lose(0)
        self.assertRaises(InvalidLoss, trial.lose, 0)
        self.assertEqual((trial.lost(), trial.forces(), trial.movements(), trial.moments()),
                         ([0], (ZERO, (1, 2)), ((1, 8),), 1))
        trial.lost().append(7)
        self.assertEqual(trial.lost(), [0])
        # There is no blow, and no group for one.
        self.assertTrue(trial.step([whole(1, 0)]))
        self.assertEqual((trial.forces(), trial.movements()), (whole(0, 1), ((1, 4),)))
        self.assertRaises(InvalidShares, trial.step, [whole(1, 0), whole(1, 0)])

    def test_the_order_of_losses(self):
        made = structure(TWO + "member o a b r\n")
        trial = Trial(made, middle_truth(made))
        trial.lose(2)
        trial.lose(0)
        self.assertEqual(trial.lost(), [2, 0])

    def test_what_lost_members_have_yielded_does_not_matter(self):
        made = structure(SECTION + "member m a b r error 0 1/2\nmember n a b r")
        trial = Trial(made, Truth(whole(1, 1), whole(2, 2, 2, 2), whole(6, 0)))
        self.assertTrue(trial.step([]))
        trial.lose(0)
        self.assertTrue(trial.step([]))
        self.assertEqual((trial.forces(), trial.movements(), trial.yielded()), (whole(0, 0), whole(0), (4, 1)))

    def test_strengths_of_the_members_that_are_left(self):
        made = structure(SECTION + "section q stiff 64 64 pull 4 push 4\nmember m a b q\nmember n a b r\n" + GROUP.replace(
            "12", "8"))
        trial = Trial(made, middle_truth(made))
        trial.lose(0)
        self.assertTrue(trial.step([whole(1, 0)]))
        trial = Trial(made, middle_truth(made))
        trial.lose(1)
        self.assertFalse(trial.step([whole(1, 0)]))


class Forks(unittest.TestCase):
    def test_forks_go_on_by_themselves(self):
        made = structure(SECTION + "section q stiff 64 64 pull 4 push 6\nmember m a b r\nmember n a b q\n" + GROUP)
        trial = Trial(made, middle_truth(made))
        trial.step([whole(1, 0)])
        other = trial.fork()
        self.assertIs(type(other), Trial)
        self.assertEqual((other.forces(), other.movements(), other.yielded(), other.moments()),
                         (trial.forces(), trial.movements(), trial.yielded(), 1))
        other.step([whole(0, 1)])
        other.lose(1)
        self.assertEqual((trial.forces(), trial.yielded(), trial.moments(), trial.lost()), (whole(2, 1), (3, 2), 1, []))
        self.assertEqual((other.yielded(), other.moments(), other.lost()), ((3, 1), 2, [1]))
        third = other.fork()
        self.assertEqual(third.lost(), [1])
        third.lose(0)
        self.assertEqual(other.lost(), [1])
        trial.step([whole(0, 1)])
        self.assertEqual((trial.forces(), trial.yielded(), trial.moments()), (((-3, 2), (-3, 2)), (3, 1), 2))
        # What has yielded went with the fork: without loads nothing yields further.
        self.assertTrue(trial.fork().step([[(1, 2), (1, 2)]]))

    def test_arguments_stay_as_they_were(self):
        made = structure(TWO + GROUP)
        truth = middle_truth(made)
        before = plain((made, truth))
        trial = Trial(made, truth)
        trial.step([whole(1, 0)])
        trial.lose(0)
        self.assertEqual(plain((made, truth)), before)
        truth.strengths = whole(0, 0, 0, 0)
        self.assertEqual(trial.fork().step([[(1, 2), (1, 2)]]), True)


class ByChance(unittest.TestCase):
    def some_truth(self, chance, made):
        def between(low, high):
            return pair(frac(low) + (frac(high) - frac(low)) * chance.choice((0, 1, Fraction(1, 3))))
        return Truth([between(*bounds) for bounds in made.factors], [between(side.sure, side.most) for side in made.sides],
                     [between(*bounds) for bounds in made.errors])

    def test_the_least_sum(self):
        chance = random.Random(87)
        seen = {"none": 0, "free": 0, "reached": 0}
        for frame in some_frames(87, 80):
            made = build(frame)
            lost = [k for k in range(len(made.rows)) if chance.random() < 0.1]
            made = without(made, lost, [])
            if len(made.sides) > 8:
                continue
            truth = self.some_truth(chance, build(frame))
            limits = [None if chance.random() < 0.2 else ratio(chance.randint(0, 9), chance.choice((1, 3))) for _ in made.sides]
            slack = tuple(ratio(chance.randint(-9, 9), chance.choice((1, 4, 90))) for _ in made.rows)
            load = Load([(p, ratio(chance.randint(1, 6))) for p in range(len(made.free)) if chance.random() < 0.4], ())
            before = plain((made, truth, limits, load))
            forces = next_forces(made, truth.factors, limits, slack, load)
            model = Model(made)
            if loose_movements(made) is not None or any(model.idle(p) for p, _ in load.force):
                self.assertIsNone(forces)
                continue
            self.assertEqual(forces, least_forces(made, truth.factors, limits, slack, load))
            if forces is None:
                seen["none"] += 1
                continue
            reached = any(limit is not None and side.sign * frac(forces[side.component]) == frac(limit)
                          for side, limit in zip(made.sides, limits))
            seen["reached" if reached else "free"] += 1
            movements = next_movements(made, truth.factors, limits, slack, forces)
            self.assertEqual(movements, self.nearest_movements(model, truth.factors, limits, slack, forces))
            # Movements fit, unless sides of both signs have reached their limits.
            both = [k for k in model.here if len(self.signs(model, k, limits, forces)) == 2]
            self.assertTrue(both or movements is not None)
            self.assertEqual(plain((made, truth, limits, load)), before)
        self.assertTrue(min(seen.values()) >= 5, seen)

    def nearest_movements(self, model, factors, limits, slack, forces):
        conditions = [exactly(unit(model.free, p), 0) for p in range(model.free) if model.idle(p)]
        for k in model.here:
            strain = frac(factors[k]) * frac(forces[k]) + frac(slack[k])
            signs = self.signs(model, k, limits, forces)
            if 1 in signs or not signs:
                conditions.append(at_least(model.rows[k], strain))
            if -1 in signs or not signs:
                conditions.append(at_most(model.rows[k], strain))
        return nearest(conditions, model.free)

    def signs(self, model, k, limits, forces):
        """The signs of the sides of a component that have reached their limits."""
        return {side.sign for side, limit in zip(model.structure.sides, limits)
                if side.component == k and limit is not None and side.sign * frac(forces[k]) == frac(limit)}

    def test_trials(self):
        chance = random.Random(89)
        seen = {"ended": 0, "yielded": 0, "lost": 0}
        for frame in some_frames(89, 60):
            made = build(frame)
            truth = self.some_truth(chance, made)
            trial = Trial(made, truth)
            yielded, total = [frac(error) for error in truth.errors], Fraction(0)
            for _ in range(6):
                shares = []
                for loads in made.groups:
                    parts = [chance.randint(0, 3) for _ in loads]
                    parts[0] += not any(parts)
                    shares.append([ratio(part, sum(parts)) for part in parts])
                before = (trial.forces(), trial.movements(), trial.yielded(), trial.moments(), trial.lost())
                model = Model(without(made, trial.lost(), []))
                if not trial.step(shares):
                    seen["ended"] += 1
                    self.assertEqual((trial.forces(), trial.movements(), trial.yielded(), trial.moments(), trial.lost()),
                                     before)
                    self.check_end(model, made, truth, shares)
                    break
                force, strain = self.mixed(made, shares)
                moved = [frac(u) for u in trial.movements()]
                self.assertEqual(model.forces_on([frac(t) for t in trial.forces()]), force)
                for k in model.here:
                    t = frac(trial.forces()[k])
                    more = (sum(a * b for a, b in zip(model.rows[k], moved)) - frac(truth.factors[k]) * t - strain[k]
                            - yielded[k])
                    yielded[k] += more
                    total += abs(more) * model.scale[k]
                    for side, strength in zip(made.sides, truth.strengths):
                        if side.component == k and not side.breaks:
                            self.assertTrue(side.sign * t <= frac(strength))
                            if side.sign * more > 0:
                                self.assertEqual(side.sign * t, frac(strength))
                seen["yielded"] += total > 0
                self.assertEqual(frac(trial.yielded()), total)
                broken = {side.component for side, strength in zip(made.sides, truth.strengths) if side.breaks
                          and side.sign * frac(trial.forces()[side.component]) > frac(strength)}
                self.assertEqual(trial.broken(), sorted(broken))
                if chance.random() < 0.1 and len(model.here) > 1:
                    seen["lost"] += 1
                    trial.lose(chance.choice(model.here))
        self.assertTrue(min(seen.values()) > 3, seen)

    def mixed(self, made, shares):
        force, strain = [Fraction(0)] * len(made.free), [Fraction(0)] * len(made.rows)
        parts = [(made.base, Fraction(1))]
        parts += [(load, frac(share)) for loads, several in zip(made.groups, shares) for load, share in zip(loads, several)]
        for load, share in parts:
            for place, amount in load.force:
                force[place] += frac(amount) * share
            for k, amount in load.strain:
                strain[k] += frac(amount) * share
        return force, strain

    def check_end(self, model, made, truth, shares):
        """The trial ends just if the structure is loose, or nothing within the strengths is in balance with the load."""
        force, _ = self.mixed(made, shares)
        strengths = dict(zip([(side.component, side.sign) for side in made.sides], truth.strengths))
        limits = [None if side.breaks else frac(strengths[(side.component, side.sign)]) for side in model.structure.sides]
        if pair_of(model.structure, Load((), ())) is not None:
            self.assertFalse(can_be_met(balance(model, force) + within(model, limits), len(model.here)))
