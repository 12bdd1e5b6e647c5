import random
import unittest
from fractions import Fraction

from making import some_frame, some_ratio, structure
from plain import plain
from reference import Model, frac, pair
from standfast.papers.falls import choice_load, falls, is_choice, work
from standfast.papers.losses import left_bare
from standfast.structure.build import build
from standfast.structure.model import Load

TINY = Fraction(1, 10 ** 12)
# A bar along x with the row 4 that bears 2 by pull and 1 by push, at most 4 and 2.
TEXT = """
section s stiff 32 64 pull 8 push 4 factor 1 2
joint a 0 0 x y
joint b 4 0 y
member m a b s
dead at b 15 0
group g
case at b 2 0
case at b 1 0 heat m 1
case
group h
case
case at b -40 0
"""
BAR = structure(TEXT)
# Two such bars, and a joint between them that is free in y, too.
ROOF = structure("""
section s stiff 32 64 pull 8 push 4 factor 1 2
joint a 0 0 x y
joint b 3 4
joint c 6 0 x y
member m a b s
member n b c s
dead at b 0 -10
""")


def one(n, d=1):
    return [(0, (n, d))]


class Choices(unittest.TestCase):
    def test_is_choice(self):
        for choice in ([0, 0], [2, 1], [1, 0], (2, 0)):
            self.assertIs(is_choice(BAR, choice), True)
        for choice in ([], [0], [0, 0, 0], [3, 0], [0, 2], [-1, 0], [0, -1], [9, 9]):
            self.assertIs(is_choice(BAR, choice), False)
        self.assertIs(is_choice(ROOF, []), True)
        self.assertIs(is_choice(ROOF, [0]), False)

    def test_choice_load(self):
        for choice, force, strain in (([0, 0], 17, ()), ([1, 0], 16, ((0, (16, 1)),)), ([2, 1], -25, ())):
            load = choice_load(BAR, choice)
            self.assertIs(type(load), Load)
            self.assertEqual((load.force, load.strain), (((0, (force, 1)),), strain))
        self.assertEqual(choice_load(ROOF, []).force, ((1, (-10, 1)),))


class Work(unittest.TestCase):
    LOAD = Load(((0, (2, 1)), (3, (-1, 2))), ((1, (99, 1)),))

    def test_along(self):
        self.assertEqual(work(self.LOAD, [(0, (3, 1)), (3, (1, 1))]), (11, 2))
        self.assertEqual(work(self.LOAD, [(3, (1, 1)), (1, (7, 1))]), (-1, 2))
        self.assertEqual(work(self.LOAD, []), (0, 1))
        self.assertEqual(work(Load((), ()), [(0, (1, 1))]), (0, 1))

    def test_places_twice_and_beyond(self):
        self.assertEqual(work(self.LOAD, [(0, (1, 1)), (0, (1, 2)), (9, (5, 1)), (0, (-1, 1))]), (1, 1))


class Falls(unittest.TestCase):
    def test_more_than_what_is_borne(self):
        # The strain is 4, and 4 multiplied by 4 is borne: less than 17, just 16, more than 15.
        self.assertIs(falls(BAR, [0, 0], one(1), one(4)), True)
        self.assertIs(falls(BAR, [1, 0], one(1), one(4)), False)
        self.assertIs(falls(BAR, [2, 0], one(1), one(4)), False)
        heavy = structure(TEXT.replace("dead at b 15 0", "dead at b 15.000000001 0"))
        self.assertIs(falls(heavy, [1, 0], one(1), one(4)), True)

    def test_the_other_side(self):
        # 25 against 4 multiplied by 2.
        self.assertIs(falls(BAR, [2, 1], one(-1), [(1, (4, 1))]), True)
        self.assertIs(falls(BAR, [2, 1], one(1), one(4)), False)

    def test_choices(self):
        for choice in ([], [0], [0, 0, 0], [3, 0], [0, 2], [-3, 0], [0, -2]):
            self.assertIs(falls(BAR, choice, one(1), one(4)), False)

    def test_movements_twice_and_beyond(self):
        self.assertIs(falls(BAR, [0, 0], [(0, (3, 1)), (5, (9, 1)), (0, (-2, 1))], one(4)), True)
        self.assertIs(falls(BAR, [0, 0], [(1, (1, 1))], one(4)), False)
        self.assertIs(falls(BAR, [0, 0], [(1, (1, 1))], []), False)

    def test_amounts_twice(self):
        self.assertIs(falls(BAR, [0, 0], one(1), [(0, (1, 1)), (0, (3, 1))]), True)
        self.assertIs(falls(BAR, [0, 0], one(1), [(0, (-1, 1)), (0, (5, 1))]), True)
        self.assertIs(falls(BAR, [0, 0], one(1), [(0, (-1, 1)), (0, (4, 1))]), False)

    def test_amounts_of_both_sides(self):
        # 4 + 1/9 by pull and 1/9 by push: 148/9 + 2/9 are borne, just below 17; with 1/6 it is just 17.
        self.assertIs(falls(BAR, [0, 0], one(1), [(0, (37, 9)), (1, (1, 9))]), True)
        self.assertIs(falls(BAR, [0, 0], one(1), [(0, (25, 6)), (1, (1, 6))]), False)
        self.assertIs(falls(BAR, [0, 0], one(1), [(0, (4, 1)), (1, (0, 1))]), True)

    def test_amounts_below_0(self):
        # These would agree with the strain.
        self.assertIs(falls(BAR, [0, 0], one(1), [(1, (-4, 1))]), False)
        self.assertIs(falls(BAR, [0, 0], one(1), [(0, (3, 1)), (1, (-1, 1))]), False)
        self.assertIs(falls(BAR, [0, 0], one(1), [(0, (4, 1)), (1, (1, 9)), (1, (-1, 9))]), True)

    def test_sides_that_are_not_there(self):
        for side in (2, 7, -1):
            self.assertIs(falls(BAR, [0, 0], one(1), [(0, (4, 1)), (side, (0, 1))]), False)
        self.assertIs(falls(BAR, [0, 0], one(1), [(-2, (4, 1))]), False)

    def test_strains_that_do_not_agree(self):
        self.assertIs(falls(BAR, [0, 0], one(1), one(3)), False)
        self.assertIs(falls(BAR, [0, 0], one(1), [(0, pair(4 - TINY))]), False)
        self.assertIs(falls(BAR, [0, 0], one(1), []), False)
        self.assertIs(falls(BAR, [0, 0], [], []), False)

    def test_no_sides_are_needed_for_what_holds_nothing(self):
        loose = structure(TEXT.replace("joint b 4 0 y", "joint b 4 0").replace("at b 2 0", "at b 2 -1"))
        self.assertIs(falls(loose, [0, 0], [(1, (-1, 1))], []), True)
        self.assertIs(falls(loose, [0, 0], [(1, (1, 1))], []), False)
        self.assertIs(falls(loose, [1, 0], [(1, (-1, 1))], []), False)

    def test_several_components(self):
        # b moves down by 1: strains of -4 and -4, for which 2 * 4 * 8/5 are borne: more than 10.
        self.assertIs(falls(ROOF, [], [(1, (-1, 1))], [(1, (4, 1)), (3, (4, 1))]), False)
        strong = structure("""
            section s stiff 32 64 pull 8 push 3
            joint a 0 0 x y
            joint b 3 4
            joint c 6 0 x y
            member m a b s
            member n b c s
            dead at b 0 -10
        """)
        # Here 2 * 4 * 3/5.
        self.assertIs(falls(strong, [], [(1, (-1, 1))], [(1, (4, 1)), (3, (4, 1))]), True)
        self.assertIs(falls(strong, [], [(1, (-1, 1))], [(1, (4, 1))]), False)
        self.assertIs(falls(strong, [], [(1, (-1, 1))], [(1, (4, 1)), (2, (4, 1))]), False)
        self.assertIs(falls(strong, [], [(1, (-1, 1))], [(1, (4, 1)), (3, (401, 100))]), False)

    def test_components_that_are_not_there(self):
        bare = left_bare(ROOF, [0])
        # The blow without forces is a group, too. Sides 0 and 1 are those of n; a movement across it strains nothing.
        self.assertIs(falls(bare, [], [(1, (-1, 1))], [(1, (4, 1))]), False)
        self.assertIs(falls(bare, [0], [(1, (-1, 1))], [(1, (4, 1))]), True)
        self.assertIs(falls(bare, [1], [(0, (-4, 3)), (1, (-1, 1))], []), True)
        self.assertIs(falls(bare, [1], [(0, (-4, 3)), (1, (-1, 1))], [(3, (0, 1))]), False)

    def test_what_is_handed_in_stays_as_it_was(self):
        choice, movement, amounts = [0, 0], [(0, (3, 1)), (0, (-2, 1))], [(0, (1, 1)), (0, (3, 1))]
        before = plain((BAR, choice, movement, amounts))
        self.assertTrue(falls(BAR, choice, movement, amounts))
        self.assertEqual(plain((BAR, choice, movement, amounts)), before)


class ByChance(unittest.TestCase):
    def test_as_the_document_determines_them(self):
        chance = random.Random(65)
        held = {True: 0, False: 0}
        for _ in range(400):
            made = build(some_frame(chance))
            made = left_bare(made, [k for k in range(len(made.rows)) if chance.random() < 0.2])
            model = Model(made)
            choice = [chance.randrange(len(loads)) for loads in made.groups]
            load = choice_load(made, choice)
            forces = [frac(dict(load.force).get(p, (0, 1))) for p in range(model.free)]
            movement = [(p, some_ratio(chance)) for p in range(model.free) if chance.random() < 0.7]
            moved = [frac(dict(movement).get(p, (0, 1))) for p in range(model.free)]
            strains = model.strains(moved)
            amounts, borne = [], Fraction(0)
            for at, side in enumerate(made.sides):
                if side.sign * strains[side.component] > 0:
                    amounts.append((at, pair(side.sign * strains[side.component])))
                    borne += side.sign * strains[side.component] * frac(side.most)
            done = sum(x * y for x, y in zip(forces, moved))
            self.assertEqual(work(load, movement), pair(done))
            self.assertEqual(falls(made, choice, movement, amounts), borne < done)
            held[borne < done] += 1
            if amounts:
                self.assertFalse(falls(made, choice, movement, amounts[1:]))
        self.assertTrue(min(held.values()) > 20, held)
