import random
import unittest

from making import some_frame, some_pair, structure, whole
from plain import plain
from reference import Model, pair
from standfast.papers.losses import left_bare
from standfast.structure.balance import forces_on, is_balanced, strains_by
from standfast.structure.build import build
from standfast.structure.model import Load

TEXT = """
section s stiff 10 20 pull 6 push 3
joint a 0 0 x
joint b 3 4
joint c 3 0 x y
member m a b s
member n c b s
member o c a s
"""
# Free movements: a y, b x, b y. Rows: (-4, 3, 4), (0, 0, 4), (0, 0, 0).


class Sums(unittest.TestCase):
    def test_forces_on(self):
        made = structure(TEXT)
        self.assertEqual(forces_on(made, whole(2, -1, 9)), whole(-8, 6, 4))
        self.assertEqual(forces_on(made, whole(0, 0, 0)), whole(0, 0, 0))
        self.assertEqual(forces_on(made, ((1, 2), (1, 3), (0, 1))), ((-2, 1), (3, 2), (10, 3)))

    def test_forces_on_with_lost_components(self):
        made = left_bare(structure(TEXT), [0])
        self.assertEqual(forces_on(made, whole(2, -1, 9)), whole(0, 0, -4))
        self.assertEqual(forces_on(left_bare(made, [1]), whole(2, -1, 9)), whole(0, 0, 0))

    def test_strains_by(self):
        made = structure(TEXT)
        self.assertEqual(strains_by(made, whole(1, 2, 3)), whole(14, 12, 0))
        self.assertEqual(strains_by(made, ((1, 2), (1, 3), (1, 4))), whole(0, 1, 0))
        self.assertEqual(strains_by(left_bare(made, [0, 2]), whole(1, 2, 3)), whole(0, 12, 0))
        self.assertEqual(strains_by(left_bare(made, [1]), whole(1, 2, 3)), whole(14, 0, 0))

    def test_a_structure_without_anything(self):
        made = structure("")
        self.assertEqual((forces_on(made, ()), strains_by(made, ()), is_balanced(made, (), Load((), ()))), ((), (), True))


class Balance(unittest.TestCase):
    def test_in_balance(self):
        made = structure(TEXT)
        force = ((0, (-8, 1)), (1, (6, 1)), (2, (4, 1)))
        self.assertIs(is_balanced(made, whole(2, -1, 9), Load(force, ())), True)
        self.assertIs(is_balanced(made, whole(2, -1, 9), Load(force, ((0, (5, 1)),))), True)
        self.assertIs(is_balanced(made, whole(0, 0, 9), Load((), ())), True)
        self.assertIs(is_balanced(made, whole(0, 1, 9), Load(((2, (4, 1)),), ())), True)

    def test_one_free_movement_differs(self):
        made = structure(TEXT)
        for force in (((0, (-8, 1)), (1, (6, 1))), ((0, (-8, 1)), (2, (4, 1))), ((1, (6, 1)), (2, (4, 1))), (),
                      ((0, (-8, 1)), (1, (6, 1)), (2, (40001, 10000))), ((0, (8, 1)), (1, (6, 1)), (2, (4, 1)))):
            self.assertIs(is_balanced(made, whole(2, -1, 9), Load(force, ())), False)
        self.assertIs(is_balanced(made, whole(0, 0, 9), Load(((1, (1, 1)),), ())), False)

    def test_lost_components_do_not_count(self):
        made = left_bare(structure(TEXT), [0])
        self.assertIs(is_balanced(made, whole(2, -1, 9), Load(((2, (-4, 1)),), ())), True)
        self.assertIs(is_balanced(made, whole(2, -1, 9), structure(TEXT).base), False)


class ByChance(unittest.TestCase):
    def test_as_the_document_determines_them(self):
        chance = random.Random(37)
        for _ in range(200):
            made = build(some_frame(chance))
            made = left_bare(made, [k for k in range(len(made.rows)) if chance.random() < 0.3])
            before = plain(made)
            model = Model(made)
            given = some_pair(chance, made)
            given = (given[0] + whole(0), given[1])
            forces = given[0][:len(made.rows)] + whole(0) * (len(made.rows) - len(given[0]))
            added = forces_on(made, forces)
            self.assertEqual(added, tuple(pair(x) for x in model.forces_on(model.full((forces, ()))[0])))
            self.assertEqual(strains_by(made, given[1]), tuple(pair(x) for x in model.strains(model.full(given)[1])))
            force = tuple((place, amount) for place, amount in enumerate(added) if amount != (0, 1))
            self.assertTrue(is_balanced(made, forces, Load(force, ())))
            if force:
                self.assertFalse(is_balanced(made, forces, Load(force[1:], ())))
            self.assertEqual(plain(made), before)
