import random
import unittest
from fractions import Fraction

from making import some_frame, some_pair, structure, whole
from plain import plain
from reference import Model, frac, pair
from standfast.elastic.enclosing import apart, own_strains, reach, rise
from standfast.elastic.pairs import pair_of
from standfast.papers.losses import left_bare
from standfast.papers.yielding import filled
from standfast.ratios import ratio
from standfast.structure.build import build
from standfast.structure.model import Load, Structure

# Bars along x, with the rows 4 and -4 at the only place and factors from 1 to 2, and 1 to 1.
TWO_BARS = structure("""
section s stiff 32 64 pull 8 push 4
section t stiff 64 64 pull 8 push 4
joint a 0 0 x y
joint b 4 0 y
joint c 8 0 x y
member m a b s
member n b c t
""")
NOTHING = Load((), ())


class OwnStrains(unittest.TestCase):
    def test_strains_minus_those_from_outside(self):
        given = (whole(7, 8), ((1, 2),))
        self.assertEqual(own_strains(TWO_BARS, given, NOTHING), whole(2, -2))
        load = Load(((0, (5, 1)),), ((0, (1, 2)), (1, (3, 1))))
        self.assertEqual(own_strains(TWO_BARS, given, load), ((3, 2), (-5, 1)))

    def test_0_for_components_that_are_not_there(self):
        load = Load((), ((0, (1, 2)), (1, (3, 1))))
        self.assertEqual(own_strains(left_bare(TWO_BARS, [0]), (whole(0, 1), ((1, 2),)), load), whole(0, -5))
        self.assertEqual(own_strains(left_bare(TWO_BARS, [1]), (whole(0, 1), ((1, 2),)), load), ((3, 2), (0, 1)))


class Apart(unittest.TestCase):
    def test_the_greater_value_at_both_bounds(self):
        # Force 1, own strain 3/2: 1 - 3 + 9/4 at the factor 1, 2 - 3 + 9/8 at 2; the second bar has 0 and 0.
        load = Load((), ((1, (-3, 2)),))
        self.assertEqual(apart(TWO_BARS, (whole(1, 0), ((3, 8),)), load), (1, 4))
        # Force 1, own strain 1: 0 at the factor 1, 2 - 2 + 1/2 at 2.
        self.assertEqual(apart(TWO_BARS, (whole(1, 0), ((1, 4),)), Load((), ((1, (-1, 1)),))), (1, 2))
        self.assertEqual(apart(TWO_BARS, (whole(-1, 0), ((-1, 4),)), Load((), ((1, (1, 1)),))), (1, 2))

    def test_the_sum_over_components(self):
        # The second bar: force 2, own strain -1: 4 + 4 + 1.
        self.assertEqual(apart(TWO_BARS, (whole(1, 2), ((1, 4),)), NOTHING), (19, 2))

    def test_components_that_are_not_there(self):
        self.assertEqual(apart(left_bare(TWO_BARS, [0]), (whole(0, 2), ((1, 4),)), NOTHING), (9, 1))
        self.assertEqual(apart(left_bare(TWO_BARS, [1]), (whole(1, 0), ((1, 4),)), NOTHING), (1, 2))
        self.assertEqual(apart(left_bare(TWO_BARS, [1, 0]), (whole(0, 0), ((1, 4),)), NOTHING), (0, 1))
        self.assertEqual(apart(left_bare(TWO_BARS, [0]), (whole(9, 2), ((1, 4),)), NOTHING), (9, 1))

    def test_forces_and_movements_that_are_missing(self):
        self.assertEqual(apart(TWO_BARS, (whole(1), ((1, 4),)), NOTHING), (3, 2))
        self.assertEqual(apart(TWO_BARS, ((), ()), Load((), ((1, (-1, 1)),))), (1, 1))


class Reach(unittest.TestCase):
    def test_by_the_lower_bound(self):
        made = structure("section s stiff 8 64 pull 1 push 1\njoint a 0 0 x y\njoint b 4 0\nmember m a b s\n"
                         "joint c 2 0\nmember n a c s")
        self.assertEqual(made.factors, (whole(1, 8), ((1, 8), (1, 1))))
        self.assertEqual([reach(made, 0), reach(made, 1)], [(1, 1), (8, 1)])


class Rise(unittest.TestCase):
    def test_both_signs(self):
        load = Load((), ((1, (-3, 2)),))
        given = (whole(1, 0), ((3, 8),))
        # The middle is 1 + 3/2 and -1 - 3/4, the root of apart 1/2.
        self.assertEqual(rise(TWO_BARS, 0, 1, given, load), (3, 2))
        self.assertEqual(rise(TWO_BARS, 0, -1, given, load), (-5, 8))
        self.assertEqual(rise(TWO_BARS, 1, 1, given, load), (1, 4))
        self.assertEqual(rise(TWO_BARS, 1, -1, given, load), (1, 4))
        opposite = (whole(-1, 0), ((-3, 8),))
        self.assertEqual(rise(TWO_BARS, 0, 1, opposite, Load((), ((1, (3, 2)),))), (-5, 8))
        self.assertEqual(rise(TWO_BARS, 0, -1, opposite, Load((), ((1, (3, 2)),))), (3, 2))

    def test_nothing(self):
        self.assertEqual(rise(TWO_BARS, 0, 1, (whole(0, 0), whole(0)), NOTHING), (0, 1))
        self.assertEqual(rise(TWO_BARS, 0, -1, (whole(0, 0), whole(0)), NOTHING), (0, 1))

    def test_the_root_from_above(self):
        given = (whole(1, 0), ((1, 4),))
        load = Load((), ((1, (-1, 1)),))
        # The middles are 2 and -3/2; the root of 1/2 from above is 0.707107.
        self.assertEqual(rise(TWO_BARS, 0, 1, given, load), ratio(2707107, 2000000))
        self.assertEqual(rise(TWO_BARS, 0, -1, given, load), ratio(-1500000 + 707107, 2000000))

    def test_the_root_of_apart_multiplied_by_the_reach(self):
        made = structure("section s stiff 4 8 pull 1 push 1\njoint a 0 0 x y\njoint b 2 0 x y\nmember m a b s\n"
                         "joint c 8 0 x y\nmember n a c s\njoint d 1 0 x y\nmember o a d s")
        self.assertEqual(made.factors, (whole(1, 2), whole(64, 128), ((1, 8), (1, 4))))
        # Apart is 1 by the first component; the reaches are 1, 1/64 and 8.
        load = Load((), ((0, (-1, 1)),))
        given = (whole(0, 0, 0), ())
        self.assertEqual(apart(made, given, load), (1, 1))
        self.assertEqual([rise(made, k, 1, given, load) for k in range(3)], [(1, 1), (1, 16), ratio(2828428, 2000000)])
        self.assertEqual([rise(made, k, -1, given, load) for k in range(3)], [(1, 4), (1, 16), ratio(2828428, 2000000)])

    def test_components_that_are_not_there_do_not_count(self):
        made = left_bare(TWO_BARS, [1])
        self.assertEqual(rise(made, 0, 1, (whole(1, 0), ((3, 8),)), Load((), ((1, (8, 1)),))), (3, 2))


class ByChance(unittest.TestCase):
    def test_as_the_document_determines_them(self):
        chance = random.Random(49)
        for _ in range(150):
            made = build(some_frame(chance))
            made = left_bare(made, [k for k in range(len(made.rows)) if chance.random() < 0.2])
            model = Model(made)
            for load in [made.base] + [load for group in made.groups for load in group]:
                given = filled(made, some_pair(chance, made))
                before = plain((made, given, load))
                self.assertEqual(own_strains(made, given, load), tuple(pair(x) for x in model.own(given, load)))
                self.assertEqual(apart(made, given, load), pair(model.apart(given, load)))
                for k in model.here:
                    self.assertEqual(reach(made, k), pair(1 / model.factors[k][0]))
                    for sign in (1, -1):
                        self.assertEqual(rise(made, k, sign, given, load), pair(model.rise(k, sign, given, load)))
                self.assertEqual(plain((made, given, load)), before)

    def test_true_forces_come_to_at_most_the_rise(self):
        chance = random.Random(52)
        seen = 0
        for _ in range(150):
            made = build(some_frame(chance))
            for load in [made.base] + [load for group in made.groups for load in group]:
                given = pair_of(made, load)
                true = pair_of(with_factors(made, chance), load)
                if given is not None:
                    for k in range(len(made.rows)):
                        seen += 1
                        self.assertLessEqual(frac(true[0][k]), frac(rise(made, k, 1, given, load)))
                        self.assertLessEqual(-frac(true[0][k]), frac(rise(made, k, -1, given, load)))
        self.assertGreater(seen, 100)


def with_factors(made, chance):
    """The structure with true factors, by chance within their bounds."""
    factors = []
    for lower, upper in made.factors:
        part = Fraction(chance.randint(0, 4), 4)
        true = pair(frac(lower) + part * (frac(upper) - frac(lower)))
        factors.append((true, true))
    return Structure(made.free, made.rows, factors, made.sides, made.base, made.groups, made.scale, made.errors,
                     made.there)
