import random
import unittest
from fractions import Fraction

from making import some_frame, some_pairs, some_ratio, structure, whole
from plain import plain
from reference import Model, at, above, frac, pair
from standfast.papers.losses import left, left_bare
from standfast.papers.turns import gain_and_lever, turns
from standfast.structure.build import build

# A bar along x with the row 4, the factor 1, bearing 2 by pull and 1 by push. The pairs are exact: forces of 3 and -3,
# and of 1/2 and 0, so a rise is a force with its sign.
TEXT = """
section s stiff 64 64 pull 8 push 4
joint a 0 0 x y
joint b 4 0 y
member m a b s
dead at b 1 0
group g
case at b 12 0
case at b -12 0
group h
case at b 2 0
case
"""
BAR = structure(TEXT)
PAIRS = [[(whole(3), ((3, 4),)), (whole(-3), ((-3, 4),))], [(((1, 2),), ((1, 8),)), (whole(0), whole(0))]]
ONE = (1, 1)
# To and fro: 2 - 3 - 1/2 are lacking, then 1 - 3 + 0.
TO = (0, (0, 0), ONE)
FRO = (1, (1, 1), ONE)


class GainAndLever(unittest.TestCase):
    def test_to_and_fro(self):
        self.assertEqual(gain_and_lever(BAR, [TO], [], PAIRS), ((3, 2), ONE))
        self.assertEqual(gain_and_lever(BAR, [FRO], [], PAIRS), ((2, 1), ONE))
        self.assertEqual(gain_and_lever(BAR, [TO, FRO], [], PAIRS), ((7, 2), (2, 1)))
        self.assertEqual(gain_and_lever(BAR, [(0, (0, 0), (1, 2)), FRO], [], PAIRS), ((11, 4), (3, 2)))

    def test_choices(self):
        for choice, lack in (((0, 0), (-3, 2)), ((0, 1), (-1, 1)), ((1, 0), (9, 2)), ([1, 1], (5, 1))):
            self.assertEqual(gain_and_lever(BAR, [(0, choice, ONE)], [], PAIRS)[0], pair(-frac(lack)))
        for choice, lack in (((0, 0), (9, 2)), ((0, 1), (4, 1)), ((1, 0), (-3, 2)), ([1, 1], (-2, 1))):
            self.assertEqual(gain_and_lever(BAR, [(1, choice, ONE)], [], PAIRS)[0], pair(-frac(lack)))

    def test_the_work_of_the_base_load(self):
        self.assertEqual(gain_and_lever(BAR, [], [(0, (5, 1)), (0, (-2, 1)), (7, (9, 1))], PAIRS), ((3, 1), (0, 1)))
        self.assertEqual(gain_and_lever(BAR, [TO], [(0, (-1, 1))], PAIRS), ((1, 2), ONE))

    def test_what_is_borne_at_most(self):
        made = structure(TEXT.replace("push 4", "push 4 factor 1 3"))
        self.assertEqual(gain_and_lever(made, [TO], [], PAIRS), ((-5, 2), ONE))
        self.assertEqual(gain_and_lever(made, [FRO], [], PAIRS), ((0, 1), ONE))

    def test_the_root_of_the_reach(self):
        made = structure(TEXT.replace("stiff 64 64", "stiff 64 128"))
        self.assertEqual(made.factors, (((1, 2), ONE),))
        # Own strains 3 and 1/2 with the factor 1/2: apart is the square of the force divided by 2.
        gain, lever = gain_and_lever(made, [(0, (0, 1), (3, 1))], [], PAIRS)
        self.assertEqual(lever, (2121321, 500000))
        # The middle for push is -3 - 3, the root of 9/2 multiplied by 2 is 3.
        self.assertEqual(gain, pair(-3 * (2 + Fraction(-6 + 3, 2))))

    def test_groups_of_pairs_as_tuples_and_lists(self):
        as_tuples = tuple(tuple(group) for group in PAIRS)
        self.assertEqual(gain_and_lever(BAR, [TO, FRO], [], as_tuples), gain_and_lever(BAR, [TO, FRO], [], PAIRS))
        self.assertIs(turns(BAR, [TO, FRO], [], as_tuples), True)

    def test_pairs_that_are_too_short_or_too_long(self):
        pairs = [[PAIRS[0][0]], PAIRS[1] + PAIRS[0], PAIRS[0]]
        self.assertEqual(gain_and_lever(BAR, [TO], [], pairs), ((3, 2), ONE))
        self.assertEqual(gain_and_lever(BAR, [FRO], [], pairs), ((-1, 1), ONE))
        pairs = [[(whole(3, 9), ((3, 4), (9, 1)))], PAIRS[1]]
        self.assertEqual(gain_and_lever(BAR, [TO], [], pairs), ((3, 2), ONE))


class Turns(unittest.TestCase):
    def test_to_and_fro(self):
        self.assertIs(turns(BAR, [TO, FRO], [], PAIRS), True)
        self.assertIs(turns(BAR, [FRO, TO], [], PAIRS), True)
        self.assertIs(turns(BAR, [(0, [0, 0], ONE), (1, [1, 1], (1, 2)), (1, [1, 0], (1, 2))], [], PAIRS), True)

    def test_on_and_on(self):
        # The joint moves by 1/4, and 1/4 is the work of the base load.
        self.assertIs(turns(BAR, [TO], [(0, (1, 4))], PAIRS), True)
        self.assertIs(turns(BAR, [FRO], [(0, (-1, 4))], PAIRS), True)
        self.assertIs(turns(BAR, [(0, (1, 1), ONE)], [(0, (1, 4))], PAIRS), False)

    def test_no_yield(self):
        self.assertIs(turns(BAR, [], [], PAIRS), False)
        loose = structure(TEXT.replace("joint b 4 0 y", "joint b 4 0").replace("at b 1 0", "at b 1 1"))
        self.assertIs(turns(loose, [], [(1, ONE)], PAIRS), False)

    def test_amounts(self):
        self.assertIs(turns(BAR, [TO, FRO, (0, (0, 0), (0, 1))], [], PAIRS), False)
        self.assertIs(turns(BAR, [TO, FRO, (0, (0, 0), (-1, 1)), (0, (0, 0), ONE)], [], PAIRS), False)
        self.assertIs(turns(BAR, [TO, FRO, TO, FRO], [], PAIRS), True)

    def test_sides(self):
        for side in (2, -1, -2, 9):
            self.assertIs(turns(BAR, [TO, FRO, (side, (0, 0), ONE)], [], PAIRS), False)
        breaking = structure(TEXT.replace("push 4", "push 4 breaks push"))
        self.assertIs(turns(breaking, [TO, FRO], [], PAIRS), False)
        self.assertIs(turns(breaking, [TO], [(0, (1, 4))], PAIRS), True)

    def test_choices(self):
        for choice in ((), (0,), (0, 0, 0), (2, 0), (0, 2), (-2, 0), (0, -1)):
            self.assertIs(turns(BAR, [(0, choice, ONE), FRO], [], PAIRS), False)
            self.assertIs(turns(BAR, [TO, (1, choice, ONE)], [], PAIRS), False)

    def test_pairs_out_of_balance(self):
        for group, index, holds in ((0, 0, False), (0, 1, False), (1, 0, False), (1, 1, False)):
            other = [list(loads) for loads in PAIRS]
            forces, movements = other[group][index]
            other[group][index] = ((pair(frac(forces[0]) + Fraction(1, 10 ** 12)),), movements)
            self.assertIs(turns(BAR, [TO, FRO], [], other), holds)
            # Pairs that are not chosen may be out of balance.
            self.assertIs(turns(BAR, [TO], [(0, (1, 4))], other), (group, index) in ((0, 1), (1, 1)))

    def test_missing_pairs(self):
        # The case without loads needs no pair.
        self.assertIs(turns(BAR, [TO, FRO], [], [PAIRS[0], PAIRS[1][:1]]), True)
        self.assertIs(turns(BAR, [TO, FRO], [], PAIRS[:1]), False)
        self.assertIs(turns(BAR, [(0, (0, 1), ONE), FRO], [], PAIRS[:1]), True)
        self.assertIs(turns(BAR, [TO, FRO], [], []), False)

    def test_strains_that_do_not_agree(self):
        self.assertIs(turns(BAR, [TO], [], PAIRS), False)
        self.assertIs(turns(BAR, [TO], [(0, (1, 3))], PAIRS), False)
        self.assertIs(turns(BAR, [TO], [(0, (-1, 4))], PAIRS), False)
        self.assertIs(turns(BAR, [TO, FRO], [(0, (1, 4))], PAIRS), False)
        self.assertIs(turns(BAR, [TO], [(0, (1, 8)), (3, (1, 1)), (0, (1, 8))], PAIRS), True)

    def test_the_gain(self):
        # To and fro lack 2 - 3 + 1 - 3 and twice what is added to both strengths.
        for pull, holds in (("14", False), ("13.999999999", True), ("15", False), ("20", False)):
            made = structure(TEXT.replace("pull 8", "pull " + pull).replace("push 4", "push 10"))
            self.assertIs(turns(made, [(0, (0, 1), ONE), FRO], [], PAIRS), holds)

    def test_components_that_are_not_there(self):
        made = structure(TEXT + "member n a b s\n")
        pairs = PAIRS + [[((), ()), ((), ())]]
        gone = left_bare(made, [1])
        self.assertIs(turns(gone, [(0, (0, 0, 1), ONE), (1, (1, 1, 0), ONE)], [], pairs), True)
        self.assertIs(turns(gone, [(0, (0, 0, 1), ONE), (1, (1, 1, 0), ONE)], [], PAIRS), True)
        self.assertIs(turns(gone, [(0, (0, 0), ONE), (1, (1, 1), ONE)], [], pairs), False)
        self.assertIs(turns(gone, [(0, (0, 0, 0), ONE)], [(0, (1, 4))], pairs), True)
        # While both are there, the movement strains n as well.
        both = [[(whole(3, 0), ()), (whole(-3, 0), ())], [(((1, 2), (0, 1)), ()), ((), ())]]
        self.assertIs(turns(made, [(0, (0, 0), ONE)], [(0, (1, 4))], both), False)

    def test_what_is_handed_in_stays_as_it_was(self):
        yields, movement = [TO, (1, [1, 1], ONE)], [(0, (0, 1))]
        before = plain((BAR, yields, movement, PAIRS))
        self.assertTrue(turns(BAR, yields, movement, PAIRS))
        gain_and_lever(BAR, yields, movement, PAIRS)
        self.assertEqual(plain((BAR, yields, movement, PAIRS)), before)


class ByChance(unittest.TestCase):
    def test_as_the_document_determines_them(self):
        chance = random.Random(67)
        for _ in range(120):
            made = build(some_frame(chance))
            made = left(made, [k for k in range(len(made.rows)) if chance.random() < 0.2], (3, 1))
            model = Model(made)
            pairs = some_pairs(chance, made)
            movement = [(p, some_ratio(chance)) for p in range(model.free)]
            yields = []
            for _ in range(chance.randint(0, 4) if made.sides else 0):
                choice = tuple(chance.randrange(len(loads)) for loads in made.groups)
                yields.append((chance.randrange(len(made.sides)), choice, some_ratio(chance)))
            gain = sum(frac(dict(made.base.force).get(p, (0, 1))) * frac(u) for p, u in movement) + Fraction(0)
            lever = Fraction(0)
            for index, choice, amount in yields:
                side = made.sides[index]
                lack = frac(side.most)
                for g, i in enumerate(choice):
                    lack += model.rise(side.component, -side.sign, at(pairs, g, i), made.groups[g][i])
                gain -= frac(amount) * lack
                lever += frac(amount) * above(1 / model.factors[side.component][0])
            self.assertEqual(gain_and_lever(made, yields, movement, pairs), (pair(gain), pair(lever)))
