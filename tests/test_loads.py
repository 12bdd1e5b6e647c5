import unittest

from plain import plain
from standfast.structure.model import Load, Side, Structure, add_loads, times_load

FIRST = Load(((0, (1, 1)), (2, (1, 2))), ((1, (1, 3)),))
SECOND = Load(((0, (-1, 1)), (3, (1, 4))), ((0, (5, 1)), (1, (1, 6))))


def as_lists(thing):
    return [as_lists(item) for item in thing] if isinstance(thing, tuple) else thing


class Made(unittest.TestCase):
    def test_load(self):
        force, strain = ((0, (1, 1)),), ((1, (1, 3)),)
        made = Load(force, strain)
        self.assertEqual((made.force, made.strain), (force, strain))
        listed = [(0, (1, 1))]
        other = Load(force=listed, strain=[[1, (1, 3)]])
        self.assertEqual(plain(other), plain(made))
        listed.append((5, (1, 1)))
        self.assertEqual(other.force, force)

    def test_side(self):
        made = Side(3, -1, (1, 2), (2, 1), True)
        self.assertEqual((made.component, made.sign, made.sure, made.most, made.breaks), (3, -1, (1, 2), (2, 1), True))
        named = Side(component=3, sign=-1, sure=(1, 2), most=(2, 1), breaks=True)
        self.assertEqual(plain(named), plain(made))

    def test_structure(self):
        free = ((0, 0), (0, 1), (2, 1))
        rows = (((0, (1, 1)),), ())
        factors = (((1, 1), (2, 1)), ((3, 1), (3, 1)))
        sides = (Side(0, 1, (1, 2), (2, 1), True), Side(0, -1, (1, 2), (2, 1), False))
        groups = ((FIRST, SECOND), ())
        errors = (((0, 1), (0, 1)), ((-1, 1), (1, 1)))
        made = Structure(free, rows, factors, sides, FIRST, groups, ((1, 1), (2, 1)), errors, (True, False))
        self.assertEqual((made.free, made.rows, made.factors), (free, rows, factors))
        self.assertEqual(plain((made.sides, made.base, made.groups)), plain((sides, FIRST, groups)))
        self.assertEqual((made.scale, made.errors, made.there), (((1, 1), (2, 1)), errors, (True, False)))
        listed = list(sides)
        other = Structure(
            free=as_lists(free), rows=as_lists(rows), factors=as_lists(factors), sides=listed, base=FIRST,
            groups=as_lists(groups), scale=[(1, 1), (2, 1)], errors=as_lists(errors), there=[True, False],
        )
        self.assertEqual(plain(other), plain(made))
        listed.clear()
        self.assertEqual(len(other.sides), 2)


class Calculated(unittest.TestCase):
    def check(self, load, force, strain):
        self.assertIs(type(load), Load)
        self.assertEqual((load.force, load.strain), (force, strain))

    def test_added(self):
        self.check(add_loads([]), (), ())
        self.check(add_loads([FIRST]), FIRST.force, FIRST.strain)
        self.check(add_loads([FIRST, SECOND]), ((2, (1, 2)), (3, (1, 4))), ((0, (5, 1)), (1, (1, 2))))
        self.check(add_loads([FIRST, SECOND, FIRST]), ((0, (1, 1)), (2, (1, 1)), (3, (1, 4))),
                   ((0, (5, 1)), (1, (5, 6))))

    def test_multiplied(self):
        self.check(times_load(FIRST, (2, 1)), ((0, (2, 1)), (2, (1, 1))), ((1, (2, 3)),))
        self.check(times_load(FIRST, (-1, 2)), ((0, (-1, 2)), (2, (-1, 4))), ((1, (-1, 6)),))
        self.check(times_load(FIRST, (0, 1)), (), ())
        self.check(add_loads([FIRST, times_load(FIRST, (-1, 1))]), (), ())

    def test_what_is_handed_in_stays_as_it_was(self):
        loads = [FIRST, SECOND]
        before = plain(loads)
        add_loads(loads)
        times_load(FIRST, (-3, 1))
        self.assertEqual(plain(loads), before)
        self.assertEqual(len(loads), 2)
