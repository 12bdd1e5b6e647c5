import random
import unittest
from fractions import Fraction

import searching
from making import some_frames, some_lists, without_gravity
from plain import plain
from reference import frac, pair
from standfast.finding.bearing import found_fall
from standfast.frames.reading import read_frame
from standfast.lightest.boxes import fall_holds, found_box_fall
from standfast.lightest.lists import with_choice, whole_box
from standfast.papers.ground import Site

TINY = Fraction(1, 10 ** 12)
# Bars along x with the row 4: the sections bear 1, 2 and 3 by pull, and half of it by push. They bear 4 times this at b.
TEXT = """
section r stiff 64 64 pull 4 push 2
section s stiff 64 64 pull 8 push 4
section t stiff 64 64 pull 8 push 4 factor 1 3/2
joint a 0 0 x y
joint b 4 0 y
member m a b r
member n a b r losable
member o a b s losable
lose 1
"""
LISTS = [(["m", "n"], ["r", "t", "s"])]


def loaded(x, more=""):
    return read_frame(TEXT + f"dead at b {x} 0\n" + more)


class Holding(unittest.TestCase):
    def check(self, frame, holds, box=((0, 1, 2),), lost=(), choice=(), movement=((0, (1, 4)),), lists=LISTS):
        movement, box = list(movement), list(box)
        before = plain((frame, lists, box, movement))
        self.assertIs(fall_holds(frame, lists, box, lost, choice, movement), holds)
        self.assertEqual(plain((frame, lists, box, movement)), before)

    def test_pull(self):
        # All bars become longer by 1: m and n cost 3 each at most, and o costs 2.
        self.check(loaded(33), True)
        self.check(loaded(32), False)
        self.check(loaded("32.000000001"), True)
        # Without the second section they cost 2 each, or 1 each.
        self.check(loaded("24.000000001"), True, [(0, 2)])
        self.check(loaded(24), False, [(0, 2)])
        self.check(loaded("16.000000001"), True, [(0,)])
        self.check(loaded(16), False, [(0,)])

    def test_push(self):
        for x, holds in ((-16, False), ("-16.000000001", True), (33, False)):
            self.check(loaded(x), holds, movement=[(0, (-1, 4))])

    def test_a_set(self):
        # Behind the loss of n: 3 and 2; behind that of o: 3 and 3.
        self.check(loaded("20.1"), True, lost=(1,), choice=(0,))
        self.check(loaded(20), False, lost=(1,), choice=(1,))
        self.check(loaded("20.1"), True, lost=(1,), choice=(1,))
        self.check(loaded("24.1"), True, lost=(2,), choice=(0,))
        self.check(loaded(24), False, lost=(2,), choice=(0,))
        for lost in ((0,), (1, 2), (1, 1), (9,), (-1,), (0, 1)):
            self.check(loaded(99), False, lost=lost, choice=(0,) * len(lost))

    def test_a_choice(self):
        more = "group g\ncase at b 2 0\ncase at b 8 0"
        self.check(loaded(25, more), True, choice=(1,))
        self.check(loaded(25, more), False, choice=(0,))
        for choice in ((), (2,), (-1,), (1, 1)):
            self.check(loaded(99, more), False, choice=choice)

    def test_movements(self):
        self.check(loaded(33), False, movement=[])
        self.check(loaded(33), True, movement=[(0, (1, 8)), (0, (1, 8))])
        self.check(loaded(33), True, movement=[(0, (5, 8)), (9, (7, 1)), (0, (-3, 8)), (1, (-7, 1))])
        self.check(loaded(33), False, movement=[(0, (1, 4)), (0, (-1, 4))])
        self.check(loaded(33), False, movement=[(1, (1, 4))])

    def test_members_of_two_lists_and_in_none(self):
        # o is in the first list alone; n costs 1 there, and m, in no list, 1.
        lists = [(["o", "nobody"], ["r", "s"]), (["o", "n"], ["r"])]
        self.check(loaded("16.000000001"), True, [(0, 1), (0,)], lists=lists)
        self.check(loaded(16), False, [(0, 1), (0,)], lists=lists)
        self.check(loaded("16.000000001"), True, [], lists=[])
        self.check(loaded("16.1"), True, [(0, 1), (0, 1, 2)], lists=[([], ["r", "t"]), ([], ["r", "s", "t"])])

    def test_one_section_for_all_members_of_a_list(self):
        # One bar is pulled and one is pushed: by pull u is better, by push v. Together they cost 3 with either.
        text = ("section u stiff 9 9 pull 6 push 3\nsection v stiff 9 9 pull 3 push 6\njoint a 0 0 x y\njoint b 3 0 y\n"
                "joint c 6 0 x y\nmember m a b u\nmember n b c u\ndead at b {} 0")
        for x, holds in ((9, False), ("9.0001", True)):
            self.check(read_frame(text.format(x)), holds, [(0, 1)], movement=[(0, (1, 3))],
                       lists=[(["m", "n"], ["u", "v"])])
        for x, holds in ((12, False), ("12.0001", True)):
            self.check(read_frame(text.format(x)), holds, [(0, 1), (0, 1)], movement=[(0, (1, 3))],
                       lists=[(["m"], ["u", "v"]), (["n"], ["u", "v"])])

    def test_sides_that_break_count(self):
        frame = read_frame(TEXT.replace("push 4 factor", "push 4 factor").replace("push 2", "push 2 breaks both")
                           + "dead at b 17 0")
        self.check(frame, True, [(0,)])


class Finding(unittest.TestCase):
    def check(self, frame, found, box=((0, 1, 2),), lists=LISTS):
        box = list(box)
        before = plain((frame, lists, box))
        self.assertEqual(found_box_fall(frame, lists, box), found)
        self.assertEqual(plain((frame, lists, box)), before)
        if found is not None:
            self.assertTrue(fall_holds(frame, lists, box, *found))
            self.assertEqual([type(part) for part in found], [tuple, tuple, list])

    def test_the_whole_box(self):
        still = TEXT.replace("lose 1", "")
        self.check(read_frame(still + "dead at b 32 0"), None)
        # The work minus 32 u is at least 1.
        self.check(read_frame(still + "dead at b 34 0"), ((), (), [(0, (1, 2))]))
        self.check(read_frame(still + "dead at b -20 0"), ((), (), [(0, (-1, 4))]))
        self.check(read_frame(still + "dead at b 24 0"), None, [(0, 2)])
        self.check(read_frame(still + "dead at b 25 0"), ((), (), [(0, (1, 1))]), [(0, 2)])

    def test_the_first_set_and_choice(self):
        # The sets in order: none, o, n. Behind them 32, 24 and 20 are borne.
        self.check(loaded(20), None)
        self.check(loaded(21), ((1,), (0,), [(0, (1, 1))]))
        self.check(loaded(25), ((2,), (0,), [(0, (1, 1))]))
        self.check(loaded(33), ((), (), [(0, (1, 1))]))
        more = "group g\ncase\ncase at b 1 0\ncase at b 2 0\ngroup h\ncase\ncase at b 1 0"
        self.check(loaded(19, more), ((1,), (1, 1, 0), [(0, (1, 1))]))
        self.check(loaded(19, more.replace("case at b 1 0\ncase at b 2 0", "case at b 2 0")),
                   ((1,), (1, 0, 0), [(0, (1, 1))]))

    def test_mixtures_of_sections_bear(self):
        # u alone bears 2 and 1, v alone 1 and 2: neither bears 1.5 both ways, but no movement shows that.
        text = ("section u stiff 9 9 pull 6 push 3\nsection v stiff 9 9 pull 3 push 6\njoint a 0 0 x y\njoint b 3 0 y\n"
                "joint c 6 0 x y\njoint d 9 0 y\nmember m a b u\nmember n c d u\ndead at b {} 0 at d -4.5 0")
        lists = [(["m", "n"], ["u", "v"])]
        frame = read_frame(text.format("4.5"))
        self.check(frame, None, [(0, 1)], lists)
        for index in (0, 1):
            self.assertIsNotNone(found_box_fall(frame, lists, [(index,)]))
        self.assertIsNotNone(found_box_fall(read_frame(text.format("4.6")), lists, [(0, 1)]))

    def test_movements_that_are_0_are_left_out(self):
        text = ("section s stiff 9 9 pull 6 push 3\njoint a 0 0 x y\njoint b 3 0\njoint c 3 -3 x y\nmember m a b s\n"
                "member n c b s\ndead at b 1 10")
        self.check(read_frame(text), ((), (), [(1, (1, 4))]), [(0,)], [(["m"], ["s"])])

    def test_without_lists(self):
        frame = read_frame(TEXT.replace("lose 1", "") + "dead at b 20 0")
        self.check(frame, ((), (), [(0, (1, 4))]), [], [])
        choice, movement, _ = found_fall(Site(frame).structure)
        self.assertEqual((tuple(choice), movement), ((), [(0, (1, 4))]))

    def test_a_loose_structure(self):
        frame = read_frame("section s stiff 1 1 pull 9 push 9\njoint a 0 0 x y\njoint b 1 0\nmember m a b s\n"
                           "dead at b 9 1/3")
        self.check(frame, ((), (), [(1, (3, 1))]), [(0,)], [(["m"], ["s"])])


class ByChance(unittest.TestCase):
    def test_as_the_document_determines_them(self):
        chance = random.Random(93)
        seen = {"found": 0, "none": 0, "holds": 0, "not": 0}
        for frame in some_frames(93, 60):
            frame = without_gravity(frame)
            lists = some_lists(chance, frame)
            box = [tuple(sorted(chance.sample(range(len(names)), chance.randint(1, len(names))))) for _, names in lists]
            found = found_box_fall(frame, lists, box)
            self.assertEqual(found, searching.found_box_fall(frame, lists, box))
            seen["none" if found is None else "found"] += 1
            if found is None:
                continue
            lost, choice, movement = found
            self.assertTrue(fall_holds(frame, lists, box, lost, choice, movement))
            # No choice of the box has forces that bear the loads.
            for chosen in (min, max):
                other = Site(with_choice(frame, lists, [chosen(places) for places in box]))
                self.assertIsNotNone(found_fall(other.bare(lost)))
            for _ in range(3):
                bent = [(place, pair(frac(a) + Fraction(chance.randint(-2, 2), 9))) for place, a in movement]
                holds = fall_holds(frame, lists, box, lost, choice, bent)
                self.assertEqual(holds, searching.fall_holds(frame, lists, box, lost, choice, bent))
                seen["holds" if holds else "not"] += 1
        self.assertTrue(min(seen.values()) > 5, seen)

    def test_no_fall_for_boxes_with_a_choice_that_bears_all(self):
        chance = random.Random(94)
        for frame in some_frames(94, 40):
            frame = without_gravity(frame)
            lists = some_lists(chance, frame)
            if found_box_fall(frame, lists, whole_box(lists)) is not None:
                for _ in range(4):
                    choice = [chance.randrange(len(names)) for _, names in lists]
                    site = Site(with_choice(frame, lists, choice))
                    self.assertTrue(any(found_fall(site.bare(lost)) is not None for lost in site.sets()))
