import random
import unittest
from fractions import Fraction

from making import some_frame, structure, whole
from plain import plain
from reference import Model, frac
from standfast.elastic.pairs import is_idle, loose_movements, pair_of
from standfast.linear.equations import loose_values
from standfast.papers.losses import left_bare
from standfast.ratios import ratio
from standfast.structure.build import build
from standfast.structure.model import Load

SECTION = "section s stiff 32 64 pull 8 push 4\n"
# A bar along x: its row is 4 at place 0, its factor lies from 1 to 2.
BAR = SECTION + "joint a 0 0 x y\njoint b 4 0 y\nmember m a b s\n"
# The same with b free in y, too: nothing holds b there.
WAGGING = SECTION + "joint a 0 0 x y\njoint b 4 0\nmember m a b s\n"


class Idle(unittest.TestCase):
    def test_idle(self):
        made = structure(WAGGING + "joint c 8 0 y\nmember n b c s\njoint d 0 9")
        # Places: b x, b y, c x, d x, d y.
        self.assertEqual([is_idle(made, place) for place in range(5)], [False] * 5)
        bare = left_bare(made, [1])
        self.assertEqual([is_idle(bare, place) for place in range(5)], [False, False, True, False, False])
        bare = left_bare(made, [0])
        self.assertEqual([is_idle(bare, place) for place in range(5)], [False] * 5)
        bare = left_bare(made, [1, 0])
        self.assertEqual([is_idle(bare, place) for place in range(5)], [True, False, True, False, False])


class Pairs(unittest.TestCase):
    def test_forces(self):
        self.assertEqual(pair_of(structure(BAR), Load(((0, (4, 1)),), ())), (whole(1), ((3, 8),)))
        self.assertEqual(pair_of(structure(BAR), Load((), ())), (whole(0), whole(0)))

    def test_strains_from_outside(self):
        self.assertEqual(pair_of(structure(BAR), Load((), ((0, (6, 1)),))), (whole(0), ((3, 2),)))
        self.assertEqual(pair_of(structure(BAR), Load(((0, (4, 1)),), ((0, (6, 1)),))), (whole(1), ((15, 8),)))
        held = structure(SECTION + "joint a 0 0 x y\njoint b 4 0 x y\nmember m a b s\n")
        self.assertEqual(pair_of(held, Load((), ((0, (6, 1)),))), (whole(-4), ()))
        self.assertEqual(pair_of(held, Load((), ())), (whole(0), ()))

    def test_two_bars_share_a_load(self):
        made = structure(BAR + "section t stiff 64 64 pull 1 push 1\nmember n b a t\n")
        # Middles 3/2 and 1: the strain 4 u divided by these, times 4, adds up to 10.
        self.assertEqual(pair_of(made, Load(((0, (10, 1)),), ())), (whole(1) + ((3, 2),), ((3, 8),)))
        # The second one is warmer: 4 (4 u) / (3/2) + 4 (4 u - 5) = 0, so 4 u is 3.
        self.assertEqual(pair_of(made, Load((), ((1, (5, 1)),))), (whole(2, -2), ((3, 4),)))

    def test_lost_components_have_no_force(self):
        made = left_bare(structure(BAR + "member n b a s\n"), [0])
        self.assertEqual(pair_of(made, Load(((0, (4, 1)),), ((0, (99, 1)),))), (whole(0, 1), ((3, 8),)))

    def test_nothing(self):
        self.assertEqual(pair_of(structure(""), Load((), ())), ((), ()))

    def test_loose(self):
        made = structure(WAGGING)
        for load in (Load((), ()), Load(((0, (4, 1)),), ()), Load(((1, (1, 1)),), ())):
            self.assertIsNone(pair_of(made, load))
        self.assertIsNone(pair_of(structure("joint a 0 0 x"), Load((), ())))

    def test_idle_movements(self):
        made = left_bare(structure(BAR + "joint c 8 3\nmember n b c s\nmember o a c s\n"), [1, 2])
        # c x and c y are idle.
        self.assertEqual(pair_of(made, Load(((0, (4, 1)),), ())), (whole(1, 0, 0), ((3, 8), (0, 1), (0, 1))))
        self.assertIsNone(pair_of(made, Load(((1, (1, 1)),), ())))
        self.assertIsNone(pair_of(made, Load(((0, (4, 1)), (2, (-1, 9))), ())))
        self.assertIsNone(loose_movements(made))

    def test_loose_and_idle(self):
        made = left_bare(structure(WAGGING + "joint c 8 0 y\nmember n b c s\n"), [1])
        self.assertIsNone(pair_of(made, Load((), ())))
        self.assertEqual(loose_movements(made), whole(0, 1, 0))


class Loose(unittest.TestCase):
    def test_not_loose(self):
        self.assertIsNone(loose_movements(structure(BAR)))
        self.assertIsNone(loose_movements(structure("")))

    def test_as_loose_values_are(self):
        self.assertEqual(loose_movements(structure(WAGGING)), whole(0, 1))
        self.assertEqual(loose_movements(structure("joint a 0 0\njoint b 0 0")), whole(1, 0, 0, 0))
        slanted = SECTION + "joint a 0 0 x y\njoint b 4 2\nmember m a b s\n"
        self.assertEqual(loose_movements(structure(slanted)), (ratio(-1, 2), ratio(1)))
        floating = SECTION + "joint a 0 0 y\njoint b 4 0 y\nmember m a b s\n"
        self.assertEqual(loose_movements(structure(floating)), whole(1, 1))


class ByChance(unittest.TestCase):
    def test_the_pair_meets_all_equations(self):
        chance = random.Random(46)
        kinds = {"pair": 0, "idle": 0, "loose": 0}
        for _ in range(400):
            made = build(some_frame(chance))
            made = left_bare(made, [k for k in range(len(made.rows)) if chance.random() < 0.2])
            before = plain(made)
            model = Model(made)
            idle = [place for place in range(model.free) if is_idle(made, place)]
            self.assertEqual(idle, [place for place in range(model.free) if model.idle(place)])
            loose = loose_movements(made)
            self.assertEqual(loose, self.loose_by_the_document(model))
            for load in [made.base] + [load for group in made.groups for load in group]:
                found = pair_of(made, load)
                pulls_at_idle = any(place in idle for place, _ in load.force)
                kinds["idle" if pulls_at_idle else "loose" if loose else "pair"] += 1
                self.assertEqual(found is None, pulls_at_idle or loose is not None)
                if found is not None:
                    self.check(model, found, load, idle)
            self.assertEqual(plain(made), before)
        self.assertTrue(min(kinds.values()) > 20, kinds)

    def check(self, model, found, load, idle):
        forces, movements = found
        self.assertIs(type(found), tuple)
        self.assertEqual((len(forces), len(movements)), (model.many, model.free))
        self.assertTrue(model.is_balanced(found, load))
        own = model.own(found, load)
        for k in range(model.many):
            middle = sum(model.factors[k]) / 2
            self.assertEqual(frac(forces[k]) * middle if k in model.here else frac(forces[k]), own[k])
        self.assertTrue(all(movements[place] == (0, 1) for place in idle))

    def loose_by_the_document(self, model):
        equations = []
        for place in range(model.free):
            numbers = [Fraction(0)] * model.free
            for k in model.here:
                for other in range(model.free):
                    part = model.rows[k][place] * model.rows[k][other]
                    numbers[other] += part / (sum(model.factors[k]) / 2)
            if model.idle(place):
                numbers[place] = Fraction(1)
            equations.append((tuple(ratio(x.numerator, x.denominator) for x in numbers), (0, 1)))
        return loose_values(equations)
