import random
import unittest
from fractions import Fraction

from making import some_frame, some_pair, some_paper, some_ratio, structure, whole
from plain import plain
from reference import Model, frac, pair
from standfast.elastic.pairs import pair_of
from standfast.papers.losses import left, left_bare
from standfast.papers.movements import bounds_of, unit_load
from standfast.papers.yielding import YieldPaper
from standfast.structure.build import build
from standfast.structure.model import Load
from standfast.structure.rows import make_row

# A bar along x with the row 4, the factor from 1 to 4, the scale 2, and errors from -1/2 to 1.
TEXT = """
section s stiff 16 64 pull 8 push 4
joint a 0 0 x y
joint b 4 0 y
member m a b s error -1/32 1/16
"""
ROW = ((0, (1, 1)),)


def elastic(force):
    """The pair of a force in the bar, with the own strain 5/2 force: apart is (3/2 force) squared."""
    return ((pair(Fraction(force)),), (pair(Fraction(force) * 5 / 8),))


# The forces are 1/4; the rises are 5/2 / 4 and less: so the share is 5/8, the slip 5/16, and wrong 5/8.
UNIT = elastic(Fraction(1, 4))
EXTRA = Fraction(5, 8)


def shift(force, way=1):
    """The shift of the elastic pair of a force: half of factor v s, 5/2 v s and the root of 4 v v (3/2 s) (3/2 s)."""
    product = Fraction(force) / 4 * way
    return (max(product, 4 * product) + Fraction(5, 2) * product + 3 * abs(product)) / 2


def bounds(made, paper, total=0, unit=UNIT, row=ROW):
    return bounds_of(made, paper, unit, row, pair(Fraction(total)))


class Loads(unittest.TestCase):
    def test_unit_load(self):
        made = unit_load(((1, (2, 3)), (4, (-1, 1))))
        self.assertIs(type(made), Load)
        self.assertEqual((made.force, made.strain), (((1, (2, 3)), (4, (-1, 1))), ()))
        self.assertEqual(unit_load(()).force, ())


class Shifts(unittest.TestCase):
    def check(self, text, paper, least, most, total=0):
        found = bounds(structure(TEXT + text), paper, total)
        self.assertEqual(found, (pair(least), pair(most)))

    def test_worked_out(self):
        self.assertEqual((shift(Fraction(1, 2)), shift(Fraction(1, 2), -1)), (Fraction(19, 32), Fraction(-1, 32)))

    def test_nothing_acts(self):
        self.check("", YieldPaper(((), ()), (), (1, 1)), -EXTRA, EXTRA)

    def test_the_base_load(self):
        paper = YieldPaper(elastic(Fraction(1, 2)), (), (1, 1))
        self.check("dead at b 2 0", paper, Fraction(1, 32) - EXTRA, Fraction(19, 32) + EXTRA)
        paper = YieldPaper(elastic(Fraction(-1, 2)), (), (1, 1))
        self.check("dead at b -2 0", paper, -Fraction(19, 32) - EXTRA, Fraction(-1, 32) + EXTRA)

    def test_the_greatest_shift_of_a_group(self):
        paper = YieldPaper(((), ()), [[elastic(Fraction(1, 2)), elastic(-1)]], (1, 1))
        self.check("group g\ncase at b 2 0\ncase at b -4 0", paper, -Fraction(19, 16) - EXTRA, Fraction(19, 32) + EXTRA)
        paper = YieldPaper(((), ()), [[elastic(Fraction(1, 2)), elastic(1)]], (1, 1))
        self.check("group g\ncase at b 2 0\ncase at b 4 0", paper, Fraction(1, 32) - EXTRA, Fraction(19, 16) + EXTRA)

    def test_several_groups(self):
        paper = YieldPaper(elastic(1), [[elastic(1)], [elastic(0), elastic(Fraction(1, 10))]], (1, 1))
        self.check("dead at b 4 0\ngroup g\ncase at b 4 0\ngroup h\ncase\ncase at b 0.4 0", paper,
                   Fraction(1, 8) - EXTRA, 2 * Fraction(19, 16) + Fraction(19, 160) + EXTRA)

    def test_missing_pairs_count_as_nothing(self):
        paper = YieldPaper(((), ()), (), (1, 1))
        self.check("group g\ncase\ncase\ngroup h\ncase", paper, -EXTRA, EXTRA)
        paper = YieldPaper((whole(0, 8), whole(0, 8)), [[elastic(0), elastic(9)], [elastic(9)]], (1, 1))
        self.check("group g\ncase", paper, -EXTRA, EXTRA)

    def test_strains_from_outside(self):
        # The member becomes longer by 1/4 of its length: 4 multiplied by 1, and the joint moves by 1.
        paper = YieldPaper((whole(0), whole(1)), (), (1, 1))
        self.check("dead heat m 1/4", paper, 1 - EXTRA, 1 + EXTRA)
        paper = YieldPaper(((), ()), [[(whole(0), whole(-1)), (whole(0), ((1, 2),))]], (1, 1))
        self.check("group g\ncase heat m -1/4\ncase heat m 1/8", paper, -1 - EXTRA, Fraction(1, 2) + EXTRA)
        paper = YieldPaper((whole(1), ((5, 8),)), (), (1, 1))
        # Force 1, own strain 5/2 - 4: with the factor 4, apart is 4 + 3 + 9/16.
        root = Fraction(1375000, 10 ** 6)
        self.check("dead at b 4 0 heat m 1/4", paper, -((-Fraction(1, 4) + Fraction(3, 8) + root) / 2 - 1) - EXTRA,
                   (1 - Fraction(3, 8) + root) / 2 + 1 + EXTRA)

    def test_the_total(self):
        paper = YieldPaper(elastic(Fraction(1, 2)), (), (1, 1))
        for total in (0, 1, Fraction(7, 3)):
            self.check("dead at b 2 0", paper, Fraction(1, 32) - EXTRA - Fraction(5, 16) * total,
                       Fraction(19, 32) + EXTRA + Fraction(5, 16) * total, total)


class Wrong(unittest.TestCase):
    def of(self, error):
        text = TEXT.replace("error -1/32 1/16", error)
        least, most = bounds(structure(text), YieldPaper(((), ()), (), (1, 1)))
        self.assertEqual(frac(least), -frac(most))
        return frac(most)

    def test_errors_on_both_sides_of_0(self):
        self.assertEqual(self.of(""), 0)
        self.assertEqual(self.of("error -1/32 1/16"), Fraction(5, 8))
        self.assertEqual(self.of("error -1/8 1/16"), Fraction(5, 4))
        self.assertEqual(self.of("error 1/16 1/8"), Fraction(5, 4))
        self.assertEqual(self.of("error -1/8 -1/16"), Fraction(5, 4))

    def test_the_greater_share_of_both_signs(self):
        row = ((0, (-1, 1)),)
        paper = YieldPaper(((), ()), (), (1, 1))
        self.assertEqual(bounds(structure(TEXT), paper, 1, elastic(Fraction(-1, 4)), row),
                         (pair(-EXTRA - Fraction(5, 16)), pair(EXTRA + Fraction(5, 16))))


class Slip(unittest.TestCase):
    text = TEXT + "section t stiff 64 64 pull 1 push 1\nmember n a b t error 0 1/8\n"

    def test_the_greatest_share_divided_by_scale(self):
        # m has 1/8 with the own strain 1/8, n has 1/8 with the same and the factor 1: its share is 1/8 or more.
        made = structure(self.text)
        unit = (((1, 8), (1, 8)), ((1, 32),))
        # Apart is 4/64 - 2/64 + 1/256 = 9/256, so half of the root is 3/32.
        share = Fraction(1, 8) + Fraction(3, 32)
        paper = YieldPaper(((), ()), (), (1, 1))
        wrong = share * 1 + share * 2
        self.assertEqual(bounds(made, paper, 0, unit), (pair(-wrong), pair(wrong)))
        self.assertEqual(bounds(made, paper, 1, unit), (pair(-wrong - 4 * share), pair(wrong + 4 * share)))

    def test_what_is_not_there_does_not_count(self):
        paper = YieldPaper(((), ()), (), (1, 1))
        made = left_bare(structure(self.text), [1])
        self.assertEqual(bounds(made, paper, 1), (pair(-EXTRA - Fraction(5, 16)), pair(EXTRA + Fraction(5, 16))))
        longer = (UNIT[0] + whole(77), UNIT[1] + whole(77))
        self.assertEqual(bounds(made, paper, 1, longer), bounds(made, paper, 1))
        made = left_bare(structure(self.text), [0, 1])
        self.assertEqual(bounds(made, paper, 5, ((), ()), ()), ((0, 1), (0, 1)))

    def test_rows_with_two_entries(self):
        made = structure("section s stiff 4 4 pull 1 push 1\njoint a 0 0 x y\njoint b 1 1\njoint c 1 0 x y\n"
                         "joint d 0 1 x y\nmember m b c s\nmember n b d s\ndead at b 3 1")
        # Rows: m (0, 1) and n (1, 0) at b; all factors are 1/4 and all forces exact.
        base = (whole(1, 3), ((3, 4), (1, 4)))
        row = ((0, (2, 1)), (1, (-1, 1)))
        unit = (whole(-1, 2), ((1, 2), (-1, 4)))
        paper = YieldPaper(base, (), (1, 1))
        self.assertEqual(bounds_of(made, paper, unit, row, (0, 1)), ((5, 4), (5, 4)))
        self.assertEqual(bounds_of(made, paper, unit, row, (1, 1)), ((-3, 4), (13, 4)))


class ByChance(unittest.TestCase):
    def test_as_the_document_determines_them(self):
        chance = random.Random(62)
        for _ in range(100):
            made = build(some_frame(chance))
            made = left(made, [k for k in range(len(made.rows)) if chance.random() < 0.2], (4, 1))
            given, unit = some_paper(chance, made), some_pair(chance, made)
            row = make_row({place: some_ratio(chance) for place in range(len(made.free)) if chance.random() < 0.5})
            total = pair(Fraction(chance.randint(0, 9), 4))
            before = plain((made, given, unit, row))
            expected = Model(made).movement_bounds(given, unit, unit_load(row), frac(total))
            self.assertEqual(bounds_of(made, given, unit, row, total), tuple(pair(x) for x in expected))
            self.assertEqual(plain((made, given, unit, row)), before)

    def test_true_movements_are_within_the_bounds(self):
        chance = random.Random(64)
        seen = 0
        for _ in range(150):
            made = build(some_frame(chance))
            base = pair_of(made, made.base)
            pairs = [[pair_of(made, load) for load in group] for group in made.groups]
            if base is None or any(item is None for group in pairs for item in group):
                continue
            paper = YieldPaper(base, pairs, (1, 1))
            row = make_row({place: some_ratio(chance) for place in range(len(made.free))})
            unit = pair_of(made, unit_load(row))
            least, most = bounds_of(made, paper, unit, row, (0, 1))
            self.assertLessEqual(frac(least), frac(most))
            # With the middles as true factors, and without errors, one load of each group acts.
            moved = [base] + [chance.choice(group) for group in pairs]
            value = sum(frac(amount) * sum(frac(movements[place]) for _, movements in moved) for place, amount in row)
            self.assertTrue(frac(least) <= value <= frac(most))
            seen += 1
        self.assertGreater(seen, 20)
