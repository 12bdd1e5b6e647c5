import random
import unittest
from fractions import Fraction

from making import some_frames, structure, whole
from plain import plain
from reference import Model, frac, pair
from standfast.elastic.pairs import pair_of
from standfast.measures.narrowing import narrowed
from standfast.structure.build import build
from standfast.structure.model import Load, Structure

# A bar along x with the row 4 and the factor from 1 to 2. A force 4 makes the movement factor / 4.
BAR = structure("section s stiff 32 64 pull 8 push 4\njoint a 0 0 x y\njoint b 4 0 y\nmember m a b s\n")
# Two of them beside one another.
TWO = structure("section s stiff 32 64 pull 8 push 4\njoint a 0 0 x y\njoint b 4 0 y\nmember m a b s\nmember n a b s\n")
# Two bars one behind the other.
ROW = structure("section s stiff 32 64 pull 8 push 4\njoint a 0 0 x y\njoint b 4 0 y\njoint c 8 0 y\n"
                "member m a b s\nmember n b c s\n")
FOUR = Load(((0, (4, 1)),), ())


class Told(unittest.TestCase):
    def check(self, made, load, low, high, bounds, impossible=False):
        before = plain((made, load))
        found = narrowed(made, load, pair(Fraction(low)), pair(Fraction(high)))
        self.assertEqual(plain((made, load)), before)
        self.assertEqual(found, (bounds, impossible))
        self.assertEqual((type(found[0]), type(found[0][0]), type(found[1])), (list, tuple, bool))

    def test_one_bar(self):
        # The work is 4 times factor / 4: just the factor.
        self.check(BAR, FOUR, "5/4", "3/2", [((5, 4), (3, 2))])
        self.check(BAR, FOUR, "1/2", "3/2", [((1, 1), (3, 2))])
        self.check(BAR, FOUR, "5/4", 9, [((5, 4), (2, 1))])
        self.check(BAR, FOUR, "1/2", 9, [whole(1, 2)])
        self.check(BAR, FOUR, 1, 2, [whole(1, 2)])
        self.check(BAR, FOUR, -9, 2, [whole(1, 2)])
        # A force the other way, or half of it.
        self.check(BAR, Load(((0, (-4, 1)),), ()), "5/4", "3/2", [((5, 4), (3, 2))])
        self.check(BAR, Load(((0, (2, 1)),), ()), "5/16", "3/8", [((5, 4), (3, 2))])

    def test_two_bars_beside_one_another(self):
        # With the lower bounds each force is 1/2: e is 1/2, W and A are 1/2. R is 1 / (4 high) - 1/4.
        # With the upper bounds the forces are 1/2, too: B is 1, and the rest of it 1/2.
        self.check(TWO, FOUR, "3/5", "3/5", [((1, 1), (3, 2)), ((1, 1), (3, 2))])
        self.check(TWO, FOUR, "4/5", "3/5", [((6, 5), (3, 2)), ((6, 5), (3, 2))])
        self.check(TWO, FOUR, "4/5", "4/5", [((6, 5), (2, 1)), ((6, 5), (2, 1))])
        # R is 0, or below it.
        self.check(TWO, FOUR, 0, 1, [whole(1, 2), whole(1, 2)])
        self.check(TWO, FOUR, 0, 9, [whole(1, 2), whole(1, 2)])

    def test_two_bars_one_behind_the_other(self):
        # Both forces are 1: A is 2, W is 2. R is 4 / high - 1; the rest of B, which is 4, is 2.
        load = Load(((1, (4, 1)),), ())
        self.check(ROW, load, "7/2", "16/5", [((3, 2), (2, 1)), ((3, 2), (2, 1))])
        self.check(ROW, load, "7/2", "8/3", [((3, 2), (2, 1)), ((3, 2), (2, 1))])
        self.check(ROW, load, 0, "12/5", [((1, 1), (3, 2))] * 2)
        self.check(ROW, load, 3, "12/5", [((1, 1), (3, 2))] * 2)
        self.check(ROW, load, "31/10", "12/5", [((11, 10), (3, 2))] * 2)

    def test_a_component_without_force(self):
        # The load at b is borne by m alone, whatever the other bar is.
        self.check(ROW, FOUR, "5/4", "3/2", [((5, 4), (3, 2)), whole(1, 2)])
        # Too little work: then e e / R is 0 for the bar without force.
        self.check(ROW, FOUR, 0, "1/2", [((1, 1), (1, 2)), whole(1, 0)], True)

    def test_impossible_measurements(self):
        self.check(BAR, FOUR, 0, "9/10", [((1, 1), (9, 10))], True)
        self.check(BAR, FOUR, "21/10", 9, [((21, 10), (2, 1))], True)
        self.check(BAR, FOUR, "3/2", "3/2", [((3, 2), (3, 2))], False)
        self.check(BAR, FOUR, "3/2", "1499999/1000000", [((3, 2), (1499999, 10 ** 6))], True)
        self.check(TWO, FOUR, "3/2", 2, [((4, 1), (2, 1)), ((4, 1), (2, 1))], True)

    def test_a_load_without_forces(self):
        # Nothing moves; but no work at all is less than what was measured.
        self.check(BAR, Load((), ()), 0, 1, [whole(1, 2)])
        self.check(BAR, Load((), ()), 5, 9, [whole(1, 2)])

    def test_no_components(self):
        made = structure("joint a 0 0 x y")
        self.assertEqual(narrowed(made, Load((), ()), (0, 1), (1, 1)), ([], False))

    def test_high_of_0_and_below(self):
        for high in ((0, 1), (-1, 9), (-5, 1)):
            self.assertIsNone(narrowed(BAR, FOUR, (-9, 1), high))
        self.assertIsNotNone(narrowed(BAR, FOUR, (-9, 1), (1, 10 ** 9)))

    def test_a_loose_structure(self):
        made = structure("section s stiff 32 64 pull 8 push 4\njoint a 0 0 x y\njoint b 4 0\nmember m a b s\n")
        for load in (FOUR, Load((), ()), Load(((1, (1, 1)),), ())):
            self.assertIsNone(narrowed(made, load, (1, 1), (2, 1)))

    def test_a_force_at_an_idle_movement(self):
        made = Structure(ROW.free, ROW.rows, ROW.factors, ROW.sides, ROW.base, (), ROW.scale, ROW.errors, [True, False])
        self.assertIsNone(narrowed(made, Load(((1, (1, 1)),), ()), (1, 1), (2, 1)))

    def test_what_is_returned_is_new(self):
        found, _ = narrowed(BAR, FOUR, (1, 1), (2, 1))
        found.clear()
        self.assertEqual(narrowed(BAR, FOUR, (1, 1), (2, 1))[0], [whole(1, 2)])


def with_factors(made, factors):
    return Structure(made.free, made.rows, [(f, f) for f in factors], made.sides, made.base, made.groups, made.scale,
                     made.errors, made.there)


class ByChance(unittest.TestCase):
    def work(self, load, movements):
        return sum(frac(amount) * frac(movements[place]) for place, amount in load.force)

    def expected(self, made, load, low, high):
        model = Model(made)
        soft = pair_of(with_factors(made, [bounds[1] for bounds in made.factors]), load)
        stiff = pair_of(with_factors(made, [bounds[0] for bounds in made.factors]), load)
        if high <= 0 or stiff is None:
            return None
        strains = model.strains([frac(u) for u in stiff[1]])
        forces = [frac(t) for t in soft[0]]
        work = self.work(load, stiff[1])
        bounds = []
        for k, (lower, upper) in enumerate(model.factors):
            rest = sum(e * e / model.factors[j][0] for j, e in enumerate(strains) if j != k)
            r = work * work / high - rest
            new_upper = strains[k] ** 2 / r if r > 0 and strains[k] ** 2 / r < upper else upper
            rest = sum(model.factors[j][1] * t * t for j, t in enumerate(forces) if j != k)
            new_lower = lower
            if forces[k] != 0:
                new_lower = max(lower, (low - rest) / forces[k] ** 2)
            bounds.append((new_lower, new_upper))
        return [(pair(a), pair(b)) for a, b in bounds], any(a > b for a, b in bounds)

    def test_as_the_document_determines_them(self):
        chance = random.Random(100)
        seen = {"none": 0, "both": 0, "impossible": 0}
        for frame in some_frames(100, 200):
            made = build(frame)
            load = Load([(p, (chance.randint(1, 9), 1)) for p in range(len(made.free)) if chance.random() < 0.5], ())
            middle = pair_of(made, load)
            size = Fraction(1) if middle is None else self.work(load, middle[1])
            low = size * Fraction(chance.randint(8, 12), 10)
            high = low + size * Fraction(chance.randint(-1, 2), 10)
            found = narrowed(made, load, pair(low), pair(high))
            self.assertEqual(found, self.expected(made, load, low, high))
            if found is None:
                seen["none"] += 1
            else:
                seen["impossible"] += found[1]
                seen["both"] += any(a != c and b != d for (a, b), (c, d) in zip(found[0], made.factors))
        self.assertTrue(min(seen.values()) > 5, seen)

    def test_true_factors_are_within_the_narrowed_bounds(self):
        chance = random.Random(101)
        seen = 0
        for frame in some_frames(101, 80):
            made = build(frame)
            load = Load([(p, (chance.randint(1, 9), 1)) for p in range(len(made.free)) if chance.random() < 0.5], ())
            true = [pair(frac(a) + (frac(b) - frac(a)) * Fraction(chance.randint(0, 8), 8)) for a, b in made.factors]
            answer = pair_of(with_factors(made, true), load)
            if answer is None or not load.force:
                continue
            work = self.work(load, answer[1])
            bounds, impossible = narrowed(made, load, pair(work * Fraction(99, 100)), pair(work))
            self.assertFalse(impossible)
            for factor, (lower, upper), (old_lower, old_upper) in zip(true, bounds, made.factors):
                self.assertTrue(frac(lower) <= frac(factor) <= frac(upper))
                self.assertTrue(frac(old_lower) <= frac(lower) and frac(upper) <= frac(old_upper))
                seen += (lower, upper) != (old_lower, old_upper)
        self.assertGreater(seen, 20)
