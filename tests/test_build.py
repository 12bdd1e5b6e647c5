import random
import unittest

import reference
from making import some_frame, structure, whole
from plain import plain
from standfast.frames.problems import problems
from standfast.frames.reading import read_frame
from standfast.structure.build import asked_rows, build
from standfast.structure.model import Load, Side, Structure

SECTION = "section s stiff 10 20 pull 6 push 3 factor 1/2 2 breaks pull weight 4\n"
SLANTED = SECTION + "joint a 0 0 x y\njoint b 3 4\nmember m a b s error -1/10 1/5\n"
FLAT = SECTION + "joint a 0 0\njoint b 4 0\nmember m a b s\n"


def one(*entries):
    """A row from places and integers."""
    return tuple((place, (n, 1)) for place, n in entries)


def loads(groups):
    return [[(load.force, load.strain) for load in group] for group in groups]


class FreeMovements(unittest.TestCase):
    def test_held_in_one_direction_in_both_and_in_none(self):
        made = structure(SECTION + "joint a 0 0 x\njoint b 1 0 x y\njoint c 2 0\njoint d 3 0 y\n")
        self.assertEqual(made.free, ((0, 1), (2, 0), (2, 1), (3, 0)))
        self.assertEqual(structure("").free, ())

    def test_rows(self):
        text = SECTION + "joint a 0 0 x\njoint b 3 4\njoint c 3 0 x y\njoint d 9 4 y\n"
        made = structure(text + "member m a b s\nmember n b a s\nmember o c b s\nmember p d c s\nmember q b d s\n")
        self.assertEqual(made.free, ((0, 1), (1, 0), (1, 1), (3, 0)))
        self.assertEqual(made.rows, (
            one((0, -4), (1, 3), (2, 4)), one((0, -4), (1, 3), (2, 4)), one((2, 4)), one((3, 6)), one((1, -6), (3, 6))))
        held = SECTION + "joint a 0 0 x y\njoint b 1 0 x y\nmember m a b s"
        self.assertEqual((structure(held).free, structure(held).rows), ((), ((),)))


class Components(unittest.TestCase):
    def test_a_length_with_a_rational_root(self):
        made = structure(SLANTED)
        self.assertEqual(made.factors, (((25, 4), (25, 2)),))
        self.assertEqual(plain(made.sides), plain((
            Side(0, 1, (3, 5), (12, 5), True), Side(0, -1, (3, 10), (6, 5), False))))
        self.assertEqual(made.scale, ((12, 5),))
        self.assertEqual(made.errors, (((-5, 2), (5, 1)),))
        self.assertEqual(made.there, (True,))

    def test_a_length_without_a_rational_root(self):
        made = structure(SLANTED.replace("joint b 3 4", "joint b 1 1"))
        self.assertEqual(made.factors, (((1414213, 10 ** 7), (707107, 2500000)),))
        self.assertEqual([(side.sure, side.most) for side in made.sides], [
            ((3 * 10 ** 6 // 2, 707107), (12 * 10 ** 6, 1414213)), ((3 * 10 ** 6 // 4, 707107), (6 * 10 ** 6, 1414213))])
        self.assertEqual(made.scale, ((12 * 10 ** 6, 1414213),))
        self.assertEqual(made.errors, (((-1, 5), (2, 5)),))
        self.assertEqual(made.rows, (one((0, 1), (1, 1)),))

    def test_breaking(self):
        for words, expected in (("", [False, False]), ("breaks pull", [True, False]), ("breaks push", [False, True]),
                                ("breaks both", [True, True])):
            made = structure(SLANTED.replace("breaks pull", words))
            self.assertEqual([side.breaks for side in made.sides], expected)

    def test_scale_by_the_greater_strength(self):
        self.assertEqual(structure(SLANTED.replace("pull 6 push 3", "pull 3 push 7")).scale, ((14, 5),))
        made = structure(SLANTED.replace("pull 6 push 3", "pull 0 push 7"))
        self.assertEqual([(side.sure, side.most) for side in made.sides], [((0, 1), (0, 1)), ((7, 10), (14, 5))])

    def test_sides_stand_in_order(self):
        made = structure(FLAT + "member n b a s\n")
        self.assertEqual([(side.component, side.sign) for side in made.sides], [(0, 1), (0, -1), (1, 1), (1, -1)])

    def test_each_member_has_its_own_section(self):
        other = "section t stiff 5 5 pull 1 push 1\n"
        made = structure(other + FLAT + "member n a b t error 1 1")
        self.assertEqual(made.factors, (((16, 5), (32, 5)), ((64, 5), (64, 5))))
        self.assertEqual(made.scale, ((3, 1), (1, 4)))
        self.assertEqual(made.errors, (whole(0, 0), whole(16, 16)))


class BaseLoad(unittest.TestCase):
    def test_weights(self):
        made = structure(SLANTED + "gravity 1/2 -1")
        self.assertEqual((made.base.force, made.base.strain), (one((0, 5), (1, -10)), ()))
        made = structure(SLANTED.replace("joint b 3 4", "joint b 1 1") + "gravity 0 -1")
        self.assertEqual(made.base.force, ((1, (-707107, 250000)),))
        made = structure(FLAT + "member n a b s\ngravity 0 -1")
        self.assertEqual(made.base.force, one((1, -16), (3, -16)))

    def test_no_weight_or_no_gravity(self):
        self.assertEqual(structure(SLANTED).base.force, ())
        self.assertEqual(structure(SLANTED.replace("weight 4", "") + "gravity 3 3").base.force, ())

    def test_dead_load(self):
        made = structure(FLAT + "dead at b 1 2 heat m 1/2 at a 5 0 at b 1/2 -2 heat m 1/4")
        self.assertEqual(made.base.force, ((0, (5, 1)), (2, (3, 2))))
        self.assertEqual(made.base.strain, one((0, 12)))
        made = structure(FLAT + "dead at b 1 2 at b -1 0 heat m 1/2 heat m -1/2\ngravity 0 -1/4")
        self.assertEqual((made.base.force, made.base.strain), (one((1, -2)), ()))

    def test_forces_at_held_directions_are_left_out(self):
        self.assertEqual(structure(SLANTED + "dead at a 7 7").base.force, ())
        made = structure(SECTION + "joint a 0 0 x\njoint b 4 0 y\nmember m a b s\ndead at a 7 8 at b 9 10")
        self.assertEqual(made.base.force, one((0, 8), (1, 9)))


class Groups(unittest.TestCase):
    def test_cases(self):
        made = structure(FLAT + "group g\ncase at a 1 0\ncase\ncase heat m -1\ngroup h\ncase at b 0 2 heat m 1 at b 1 0")
        self.assertEqual(loads(made.groups), [
            [(one((0, 1)), ()), ((), ()), ((), one((0, -16)))], [(one((2, 1), (3, 2)), one((0, 16)))]])
        self.assertEqual(loads(structure(FLAT).groups), [])

    def test_settling(self):
        made = structure(SECTION + "joint a 0 0 x -1 2 y 1/2 1/2\njoint b 3 4 x 0 0 y 0 1\nmember m a b s\n")
        self.assertEqual(loads(made.groups), [
            [((), one((0, -3))), ((), one((0, 6)))], [((), one((0, 2)))], [((), ()), ((), one((0, -4)))]])

    def test_settling_comes_after_cases(self):
        made = structure(FLAT.replace("joint a 0 0", "joint a 0 0 x -1 0") + "group g\ncase at b 1 1")
        self.assertEqual(loads(made.groups), [[(one((1, 1), (2, 1)), ())], [((), one((0, -4))), ((), ())]])

    def test_settling_strains_all_members_there(self):
        made = structure(SECTION + "joint a 0 0 x 1 1\njoint b 3 4\njoint c -5 0\n"
                         "member m a b s\nmember n c a s\nmember o b c s")
        self.assertEqual(loads(made.groups), [[((), one((0, 3), (1, -5)))]])

    def test_settling_without_members(self):
        made = structure(SECTION + "joint a 0 0 x 0 1")
        self.assertEqual(loads(made.groups), [[((), ()), ((), ())]])


class Asked(unittest.TestCase):
    def test_rows(self):
        frame = read_frame(SECTION + "joint a 0 0 x\njoint b 4 0\nask p b 1 -2\nask q a 0 3\nask r b 0 1/2\nask s b 0 0")
        self.assertEqual(problems(frame), [])
        found = asked_rows(frame)
        self.assertEqual(found, [one((1, 1), (2, -2)), one((0, 3)), ((2, (1, 2)),), ()])
        found.clear()
        self.assertEqual(len(asked_rows(frame)), 4)
        self.assertEqual(asked_rows(read_frame(SECTION)), [])


class ByChance(unittest.TestCase):
    def test_as_the_document_determines_them(self):
        chance = random.Random(34)
        for _ in range(300):
            frame = some_frame(chance)
            before = plain(frame)
            made = build(frame)
            self.assertEqual(plain(frame), before)
            self.assertIs(type(made), Structure)
            expected = reference.structure_of(frame)
            for name in ("free", "rows", "factors", "scale", "errors"):
                self.assertEqual(getattr(made, name), tuple(expected[name]), name)
            self.assertEqual([(side.component, side.sign, side.sure, side.most, side.breaks) for side in made.sides],
                             expected["sides"])
            self.assertIs(type(made.base), Load)
            self.assertEqual((made.base.force, made.base.strain), expected["base"])
            self.assertEqual(loads(made.groups), [list(group) for group in expected["groups"]])
            self.assertEqual(made.there, (True,) * len(frame.members))
