import random
import unittest

from making import some_frame, structure
from plain import plain
from reference import Model, frac, loss_sets as expected_sets, row
from standfast.papers.losses import left, left_bare, loss_sets, without
from standfast.structure.build import build
from standfast.structure.model import Load, Structure

# Free movements: b x, b y, c x, c y. The members m and n lie along x, o and q stand upright, p is slanted.
MADE = structure("""
section s stiff 32 64 pull 8 push 4
section t stiff 10 10 pull 1 push 3 factor 1 2
joint a 0 0 x y
joint b 4 0
joint c 4 3
joint d 4 -3 x y
member m a b s error 0 1/2
member n a b s
member o b c t
member p a c s
member q b d s
group g
case at b 1 0
case heat p 1
""")


def loads(groups):
    return [[(load.force, load.strain) for load in group] for group in groups]


class Left(unittest.TestCase):
    def test_no_member(self):
        self.assertEqual(plain(left(MADE, [], (5, 1))), plain(MADE))
        self.assertEqual(plain(left_bare(MADE, [])), plain(MADE))

    def test_what_is_not_there(self):
        made = left(MADE, [2], (1, 1))
        self.assertEqual(made.there, (True, True, False, True, True))
        self.assertEqual([(side.component, side.sign) for side in made.sides],
                         [(0, 1), (0, -1), (1, 1), (1, -1), (3, 1), (3, -1), (4, 1), (4, -1)])
        self.assertEqual(plain(made.sides), plain(MADE.sides[:4] + MADE.sides[6:]))

    def test_all_else_stays(self):
        made = left(MADE, [0, 2], (3, 1))
        self.assertIs(type(made), Structure)
        for name in ("free", "rows", "factors", "base", "scale", "errors"):
            self.assertEqual(plain(getattr(made, name)), plain(getattr(MADE, name)))
        self.assertEqual(plain(made.groups[:1]), plain(MADE.groups))

    def test_a_blow(self):
        # The row of o is -3 at b y and 3 at c y; its scale is 2 multiplied by 3, divided by 3.
        made = left(MADE, [2], (1, 1))
        self.assertEqual(loads(made.groups[1:]), [
            [(((1, (-6, 1)), (3, (6, 1))), ()), (((1, (6, 1)), (3, (-6, 1))), ())]])

    def test_strike(self):
        for blow, force in (((1, 1), 6), ((3, 2), 6), ((2, 1), 6), ((5, 2), 9), ((3, 1), 12), ((4, 1), 18)):
            made = left(MADE, [2], blow)
            self.assertEqual(made.groups[1][0].force, ((1, (-force, 1)), (3, (force, 1))))
            self.assertEqual(made.groups[1][1].force, ((1, (force, 1)), (3, (-force, 1))))

    def test_several_members_in_any_order(self):
        first, second = left(MADE, [0, 2], (1, 1)), left(MADE, [2, 0], (1, 1))
        self.assertEqual(plain(first), plain(second))
        self.assertEqual(len(first.groups), 3)
        # The scale of m is 8 / 4, its row 4 at b x.
        self.assertEqual(first.groups[1][0].force, ((0, (8, 1)),))
        self.assertEqual(first.groups[2][0].force, ((1, (-6, 1)), (3, (6, 1))))
        self.assertEqual(plain(left_bare(MADE, [2, 0])), plain(left_bare(MADE, [0, 2])))

    def test_idle_movements_get_no_blow(self):
        made = left(MADE, [2, 3], (1, 1))
        # Nothing holds c any more.
        self.assertEqual(loads(made.groups[1:]), [
            [(((1, (-6, 1)),), ()), (((1, (6, 1)),), ())], [((), ()), ((), ())]])
        made = left(MADE, [3], (1, 1))
        # Now c hangs on o alone, which is upright, so that c is idle in x; the scale of p is 8 / 5.
        self.assertEqual(made.groups[1][0].force, ((3, (24, 5)),))
        self.assertEqual(made.groups[1][1].force, ((3, (-24, 5)),))

    def test_idle_behind_all_losses(self):
        made = left(MADE, [0, 1], (1, 1))
        # b x is idle only if both m and n are lost.
        self.assertEqual(loads(made.groups[1:]), [[((), ()), ((), ())], [((), ()), ((), ())]])
        self.assertEqual(left(MADE, [0], (1, 1)).groups[1][0].force, ((0, (8, 1)),))

    def test_one_loss_after_the_other(self):
        made = left(left_bare(MADE, [0]), [2], (1, 1))
        self.assertEqual(made.there, (False, True, False, True, True))
        self.assertEqual(len(made.groups), 3)
        self.assertEqual(made.groups[2][0].force, ((1, (-6, 1)), (3, (6, 1))))

    def test_a_structure_without_free_movements(self):
        made = structure("section s stiff 1 1 pull 1 push 1\njoint a 0 0 x y\njoint b 4 0 x y\nmember m a b s")
        self.assertEqual(loads(left(made, [0], (1, 1)).groups), [[((), ()), ((), ())]])


class Bare(unittest.TestCase):
    def test_without_blows(self):
        made = left_bare(MADE, [3, 0])
        self.assertEqual(loads(made.groups[1:]), [[((), ()), ((), ())], [((), ()), ((), ())]])
        self.assertEqual(made.there, (False, True, True, False, True))
        self.assertEqual([side.component for side in made.sides], [1, 1, 2, 2, 4, 4])
        self.assertEqual(plain(made.groups[:1]), plain(MADE.groups))

    def test_with_groups(self):
        extra = [[Load(((0, (1, 1)),), ())], [Load((), ()), Load((), ((1, (2, 1)),)), Load((), ())]]
        made = without(MADE, [1], extra)
        self.assertEqual(made.there, (True, False, True, True, True))
        self.assertEqual(plain(made.groups), plain(MADE.groups + tuple(tuple(group) for group in extra)))
        extra[0].clear()
        extra.pop()
        self.assertEqual([len(group) for group in made.groups], [2, 1, 3])
        self.assertEqual(plain(without(MADE, [], [])), plain(MADE))


class Sets(unittest.TestCase):
    def test_as_in_the_document(self):
        self.assertEqual(loss_sets([0, 1, 2], 2), [(), (2,), (1,), (1, 2), (0,), (0, 2), (0, 1)])

    def test_few(self):
        self.assertEqual(loss_sets([], 0), [()])
        self.assertEqual(loss_sets([3, 5], 0), [()])
        self.assertEqual(loss_sets([3], 1), [(), (3,)])
        self.assertEqual(loss_sets([3, 5], 1), [(), (5,), (3,)])
        self.assertEqual(loss_sets([3, 5], 2), [(), (5,), (3,), (3, 5)])

    def test_all(self):
        for many in range(5):
            losable = [1, 4, 5, 9][:many]
            for lose in range(many + 1):
                self.assertEqual(loss_sets(losable, lose), expected_sets(losable, lose))
                self.assertEqual(losable, [1, 4, 5, 9][:many])

    def test_the_list_is_new(self):
        loss_sets([1, 2], 2).clear()
        self.assertEqual(loss_sets([1, 2], 2), [(), (2,), (1,), (1, 2)])


class ByChance(unittest.TestCase):
    def test_as_the_document_determines_them(self):
        chance = random.Random(53)
        for _ in range(200):
            made = build(some_frame(chance))
            lost = [k for k in range(len(made.rows)) if chance.random() < 0.4]
            chance.shuffle(lost)
            blow = chance.choice(((1, 1), (2, 1), (7, 2)))
            before = plain((made, lost))
            found = left(made, lost, blow)
            self.assertEqual(plain((made, lost)), before)
            model = Model(found)
            self.assertEqual(model.here, [k for k in range(len(made.rows)) if k not in lost])
            expected = []
            for k in sorted(lost):
                force = max(1, frac(blow) - 1) * model.scale[k]
                first = {p: n * force for p, n in enumerate(model.rows[k]) if not model.idle(p)}
                second = row({p: -x for p, x in first.items()})
                expected.append([(row(first), ()), (second, ())])
            self.assertEqual(loads(found.groups), loads(made.groups) + expected)
            bare = left_bare(made, lost)
            self.assertEqual(plain((bare.there, bare.sides)), plain((found.there, found.sides)))
            self.assertEqual(loads(bare.groups), loads(made.groups) + [[((), ()), ((), ())] for _ in lost])
