import unittest

import searching
from making import some_frames, structure, whole
from plain import plain
from reference import frac
from standfast.finding.bearing import bearing_forces, found_fall, most_limits, raising, sure_limits
from standfast.papers.falls import falls
from standfast.papers.ground import Site, choices
from standfast.papers.losses import left, left_bare
from standfast.structure.build import build

# Bars along x, each with the row 4 and the scale 2: they bear from 1 to 2 by pull, and 1/2 to 1 by push.
SECTION = "section s stiff 64 64 pull 8 push 4 factor 1/2 1\n"
BAR = SECTION + "joint a 0 0 x y\njoint b 4 0 y\nmember m a b s\n"
TWO = BAR + "member n a b s\n"
# Two bars to a joint that is free in both directions: the rows are (3, 0) and (0, 3).
CORNER = ("section s stiff 9 9 pull 6 push 3\njoint a 0 0 x y\njoint b 3 0\njoint c 3 -3 x y\n"
          "member m a b s\nmember n c b s\n")
LOOSE = SECTION + "joint a 0 0 x y\njoint b 4 0\nmember m a b s\n"


class Limits(unittest.TestCase):
    def test_sure_and_most(self):
        made = structure(TWO)
        self.assertEqual(sure_limits(made), [(1, 1), (1, 2), (1, 1), (1, 2)])
        self.assertEqual(most_limits(made), [(2, 1), (1, 1), (2, 1), (1, 1)])
        self.assertEqual(sure_limits(left_bare(made, [0])), [(1, 1), (1, 2)])
        self.assertEqual(sure_limits(structure("")), [])


class Forces(unittest.TestCase):
    def check(self, text, choice, limits, forces):
        made = structure(text)
        self.assertEqual(bearing_forces(made, choice, [tuple(limit) for limit in limits]), forces)

    def test_one_bar(self):
        limits = whole(1, 1)
        self.check(BAR + "dead at b 4 0", [], limits, whole(1))
        self.check(BAR + "dead at b -4 0", [], limits, whole(-1))
        self.check(BAR + "dead at b 4 0", [], [(999, 1000), (5, 1)], None)
        self.check(BAR + "dead at b 4 0", [], [(1, 1), (-1, 1)], whole(1))
        self.check(BAR + "dead at b 4 0", [], [(1, 1), (-2, 1)], None)
        self.check(BAR, [], limits, whole(0))

    def test_the_choice_and_the_base_load(self):
        text = BAR + "dead at b 1 0\ngroup g\ncase at b 3 0\ncase at b -2 0\ngroup h\ncase\ncase at b 1 0"
        for choice, force in (([0, 0], (1, 1)), ([0, 1], (5, 4)), ([1, 0], (-1, 4)), ([1, 1], (0, 1))):
            self.check(text, choice, whole(2, 2), (force,))
        self.check(text, [0, 1], whole(1, 1), None)

    def test_nearest_to_nothing(self):
        # The forces add up to 3/2, the first one comes first.
        text = TWO + "dead at b 6 0"
        self.check(text, [], whole(2, 2, 2, 2), ((0, 1), (3, 2)))
        self.check(text, [], whole(2, 2, 1, 2), ((1, 2), (1, 1)))
        self.check(text, [], [(3, 4), (2, 1), (3, 4), (2, 1)], ((3, 4), (3, 4)))
        self.check(text, [], [(3, 4), (2, 1), (2, 3), (2, 1)], None)
        # The first bar must be pushed if the second one must be pulled with 2 or more.
        self.check(text, [], [(5, 1), (5, 1), (5, 1), (-2, 1)], ((-1, 2), (2, 1)))
        self.check(TWO + "member o a b s\ndead at b 6 0", [], [(1, 2)] * 6, ((1, 2), (1, 2), (1, 2)))

    def test_in_two_directions(self):
        self.check(CORNER + "dead at b 3 -6", [], whole(2, 2, 2, 2), whole(1, -2))
        self.check(CORNER + "dead at b 3 -6", [], whole(2, 2, 2, 1), None)

    def test_a_loose_structure_bears_some_loads(self):
        self.check(LOOSE + "dead at b 4 0", [], whole(1, 1), whole(1))
        self.check(LOOSE + "dead at b 4 1", [], whole(1, 1), None)
        self.check(LOOSE + "dead at b 0 1/1000000", [], whole(1, 1), None)

    def test_lost_components(self):
        made = left(structure(TWO + "dead at b 4 0"), [0], (1, 1))
        # The blow is 4 times 2.
        self.assertEqual(bearing_forces(made, [0], whole(3, 1)), whole(0, 3))
        self.assertEqual(bearing_forces(made, [1], whole(3, 1)), whole(0, -1))
        self.assertIsNone(bearing_forces(made, [0], whole(2, 2)))
        self.assertEqual(bearing_forces(left_bare(made, [1]), [0, 0], []), None)
        nothing = left_bare(structure(TWO), [0, 1])
        self.assertEqual(bearing_forces(nothing, [0, 0], []), whole(0, 0))


class Falls(unittest.TestCase):
    def check(self, text, choice, movement, amounts):
        made = structure(text)
        found = found_fall(made)
        self.assertEqual(found, (choice, movement, amounts))
        self.assertTrue(falls(made, choice, movement, amounts))

    def test_one_bar(self):
        # It bears 2 by pull: the work 12 u - 2 times the amount 4 u is 4 u.
        self.check(BAR + "dead at b 12 0", [], [(0, (1, 4))], [(0, (1, 1))])
        # It bears 1 by push: 12 u - 4 u is 8 u.
        self.check(BAR + "dead at b -12 0", [], [(0, (-1, 8))], [(1, (1, 2))])
        self.assertIsNone(found_fall(structure(BAR + "dead at b 8 0")))
        self.assertIsNone(found_fall(structure(BAR)))
        self.check(BAR + "dead at b 8.000001 0", [], [(0, (1000000, 1))], [(0, (4000000, 1))])

    def test_the_first_choice_that_falls(self):
        text = BAR + "group g\ncase at b 4 0\ncase at b 9 0\ngroup h\ncase\ncase at b 8 0\n"
        self.check(text, [0, 1], [(0, (1, 4))], [(0, (1, 1))])
        self.check(text.replace("case at b 4 0", "case at b 0 0"), [1, 0], [(0, (1, 1))], [(0, (4, 1))])
        self.check("group f\ncase\ncase\n" + text, [0, 0, 1], [(0, (1, 4))], [(0, (1, 1))])

    def test_movements_of_0_are_left_out(self):
        # Only the second movement and the second bar matter.
        self.check(CORNER + "dead at b 1 10", [], [(1, (1, 4))], [(2, (3, 4))])

    def test_nearest_to_nothing(self):
        # Along x nothing holds the joint, and along y the bar bears 2 by pull: the first movement is 0 if that can be.
        self.check(LOOSE.replace("joint b 4 0\n", "joint b 0 4\n") + "dead at b 1 12", [], [(1, (1, 4))], [(0, (1, 1))])
        self.check(LOOSE.replace("joint b 4 0\n", "joint b 0 4\n") + "dead at b 1 8", [], [(0, (1, 1))], [])

    def test_lost_components(self):
        made = structure(TWO + "dead at b 12 0")
        self.assertIsNone(found_fall(made))
        bare = left_bare(made, [0])
        self.assertEqual(found_fall(bare), ([0], [(0, (1, 4))], [(0, (1, 1))]))
        self.assertEqual(found_fall(left_bare(made, [0, 1])), ([0, 0], [(0, (1, 12))], []))
        # The blow 8, times 1, comes on top of 4.
        made = left(structure(TWO + "dead at b 4 0"), [0], (1, 1))
        self.assertEqual(found_fall(made), ([0], [(0, (1, 4))], [(0, (1, 1))]))


class Raisings(unittest.TestCase):
    def check(self, text, limits, result):
        self.assertEqual(raising(structure(text), limits), result)

    def test_short(self):
        self.check(BAR + "dead at b 4 0", [(999, 1000), (1, 1)], ("short", None))
        self.check(BAR + "dead at b 4 0\ngroup g\ncase at b -4 0", [(999, 1000), (1, 1)], ("short", None))
        self.check(LOOSE + "dead at b 0 1", whole(1, 1), ("short", None))

    def test_up_to(self):
        text = BAR + "dead at b 4 0\ngroup g\ncase at b 2 0\ncase at b -3 0\n"
        self.check(text, whole(4, 1), ("up to", (8, 3)))
        self.check(text, whole(2, 7), ("up to", (2, 1)))
        self.check(text, whole(1, 7), ("up to", (0, 1)))
        self.check(text + "group h\ncase\ncase at b 2 0", whole(2, 7), ("up to", (1, 1)))

    def test_met_at_the_ratio_and_not_above_it(self):
        text = BAR + "dead at b 4 0\ngroup g\ncase at b {} 0"
        limits = whole(4, 1)
        _, a = raising(structure(text.format(2)), limits)
        self.assertEqual(a, (6, 1))
        self.assertIsNotNone(bearing_forces(structure(text.format(12)), [0], limits))
        self.assertIsNone(bearing_forces(structure(text.format("12.000000001")), [0], limits))

    def test_endless(self):
        self.check(BAR + "dead at b 4 0", whole(1, 1), ("endless", None))
        self.check(BAR + "group g\ncase\ncase heat m 99", whole(1, 1), ("endless", None))
        self.check("group g\ncase", [], ("endless", None))
        self.check(CORNER + "group g\ncase at c 1 1", whole(0, 0, 0, 0), ("endless", None))

    def test_loads_that_cannot_be_borne_at_all(self):
        self.check(LOOSE + "group g\ncase at b 4 0\ncase at b 0 1", whole(1, 1), ("up to", (0, 1)))
        self.check(LOOSE + "dead at b 4 0\ngroup g\ncase at b 0 1", whole(1, 1), ("up to", (0, 1)))

    def test_blows_are_raised_too(self):
        made = left(structure(TWO + "dead at b 4 0"), [0], (1, 1))
        self.assertEqual(raising(made, whole(4, 3)), ("up to", (3, 2)))


class ByChance(unittest.TestCase):
    def test_as_the_document_determines_them(self):
        seen = set()
        for frame in some_frames(77, 40):
            site = Site(frame)
            for lost in site.sets():
                for made in (site.behind(lost), site.bare(lost)):
                    before = plain(made)
                    for choice in (choices(made)[0], choices(made)[-1]):
                        for limits in (sure_limits(made), most_limits(made)):
                            found = bearing_forces(made, choice, limits)
                            self.assertEqual(found, searching.bearing_forces(made, choice, [frac(x) for x in limits]))
                            seen.add(found is None)
                    limits = sure_limits(made)
                    found = raising(made, limits)
                    self.assertEqual(found, searching.raising(made, [frac(x) for x in limits]))
                    seen.add(found[0])
                    self.assertEqual(plain(made), before)
                found = found_fall(made)
                self.assertEqual(found, searching.found_fall(made))
                seen.add(type(found))
                if found is not None:
                    self.assertTrue(falls(made, *found))
                    self.assertEqual([type(part) for part in found], [list, list, list])
        self.assertEqual(seen, {True, False, "short", "up to", "endless", tuple, type(None)})

    def test_falls_are_there_just_where_nothing_bears_the_load(self):
        for frame in some_frames(78, 60):
            made = build(frame)
            limits = most_limits(made)
            borne = [bearing_forces(made, choice, limits) is not None for choice in choices(made)]
            found = found_fall(made)
            if all(borne):
                self.assertIsNone(found)
            else:
                self.assertEqual(found[0], choices(made)[borne.index(False)])
