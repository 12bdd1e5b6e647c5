import random
import unittest

import searching
from making import some_frames, some_lists, without_gravity
from plain import plain
from reference import frac, pair
from standfast.frames.problems import problems
from standfast.frames.reading import read_frame
from standfast.frames.writing import write_frame
from standfast.lightest.lists import fit, least_weight, weight_of, whole_box, with_choice

# The lengths are 5, 4 and 3.
TEXT = """section r stiff 1 2 pull 3 push 4 weight 2
section s stiff 1 2 pull 3 push 4 weight 1/3
section t stiff 1 2 pull 3 push 4
joint a 0 0 x y
joint b 3 4
joint c 3 0 x y
joint d 0 4 x y
member m a b r error 0 1/9 losable
member n c b s
member o d b t losable
dead at b 1 0
group g
case heat m 1
lose 1 blow 3
ask p b 1 0
"""
FRAME = read_frame(TEXT)


class Fitting(unittest.TestCase):
    def check(self, lists, fits, frame=FRAME):
        before = plain((frame, lists))
        self.assertIs(fit(frame, lists), fits)
        self.assertEqual(plain((frame, lists)), before)

    def test_fitting(self):
        self.check([], True)
        self.check([(["m"], ["r"])], True)
        self.check([[["m", "n"], ["r", "s", "t"]], (("o",), ("t", "t"))], True)

    def test_no_section(self):
        self.check([(["m"], [])], False)
        self.check([(["m"], ["r"]), ([], [])], False)

    def test_a_section_that_the_frame_has_not(self):
        self.check([(["m"], ["z"])], False)
        self.check([(["m"], ["r", "z"])], False)
        self.check([([], ["z"])], False)

    def test_names_of_no_members_and_members_in_two_lists(self):
        self.check([(["nobody", "a"], ["r"])], True)
        self.check([(["m", "m"], ["r"]), (["m"], ["s"])], True)
        self.check([([], ["r"])], True)

    def test_gravity(self):
        for line, fits in (("gravity 0 -1", False), ("gravity 1/9 0", False), ("gravity 0 0", True)):
            self.check([(["m"], ["r"])], fits, read_frame(TEXT + line))

    def test_problems(self):
        for line in ("section z stiff 2 1 pull 1 push 1", "member z a z s", "blow"):
            frame = read_frame(TEXT.replace("blow 3", "blow 0") if line == "blow" else TEXT + line)
            self.assertNotEqual(problems(frame), [])
            self.check([(["m"], ["r"])], False, frame)
            self.check([], False, frame)

    def test_problems_without_the_lists_alone(self):
        # The frame has a problem as it is, though none with the first sections.
        frame = read_frame(TEXT.replace("member m a b r", "member m a b nothing"))
        self.check([(["m"], ["r"])], False, frame)


class Choices(unittest.TestCase):
    def check(self, lists, choice, *changes):
        before = plain((FRAME, lists, choice))
        text = TEXT
        for old, new in changes:
            text = text.replace(old, new)
        found = with_choice(FRAME, lists, choice)
        self.assertEqual(write_frame(found), text)
        self.assertEqual(plain((FRAME, lists, choice)), before)

    def test_the_written_form(self):
        self.assertEqual(write_frame(FRAME), TEXT)
        self.check([], [])
        self.check([(["m"], ["r", "s"])], [0])
        self.check([(["m"], ["r", "s"])], [1], ("a b r", "a b s"))
        self.check([(["m", "o"], ["t", "s"]), (["n"], ["r"])], [1, 0], ("a b r", "a b s"), ("d b t", "d b s"),
                   ("c b s", "c b r"))

    def test_a_member_belongs_to_the_first_list(self):
        self.check([(["m"], ["s"]), (["m", "n"], ["t"])], [0, 0], ("a b r", "a b s"), ("c b s", "c b t"))
        self.check([(["nobody", "a"], ["s"]), ([], ["t"])], [0, 0])


class Weights(unittest.TestCase):
    def test_a_frame(self):
        self.assertEqual(weight_of(FRAME), (34, 3))
        self.assertEqual(weight_of(read_frame("")), (0, 1))
        # Lengths are rounded up: the root of 2.
        text = TEXT.replace("joint b 3 4", "joint b 1 1").replace("joint d 0 4", "joint d 1 9")
        self.assertEqual(weight_of(read_frame(text.replace("weight 1/3", ""))), pair(frac((2828428, 10 ** 6))))

    def test_boxes(self):
        lists = [(["m", "n"], ["r", "s", "t"]), (["m", "o"], ["s", "r"])]
        # The lengths are 9 and 3.
        for box, weight in (([(0, 1, 2), (0, 1)], (1, 1)), ([(0, 1), (0, 1)], (4, 1)), ([(0,), (1,)], (24, 1)),
                            ([(1,), (1,)], (9, 1)), ([(0, 2), (0,)], (1, 1))):
            self.assertEqual(least_weight(FRAME, lists, box), weight)
        self.assertEqual(least_weight(FRAME, [], []), (34, 3))
        self.assertEqual(least_weight(FRAME, [(["n"], ["t", "r"]), ([], ["r"])], [(1,), (0,)]), (18, 1))

    def test_one_section_for_all_members_of_a_list(self):
        self.assertEqual(least_weight(FRAME, [(["m", "o"], ["r", "s"])], [(0, 1)]), (4, 1))

    def test_the_whole_box(self):
        lists = [(["m"], ["r", "s", "t"]), ([], ["r"])]
        self.assertEqual(whole_box(lists), [(0, 1, 2), (0,)])
        self.assertEqual(whole_box([]), [])
        found = whole_box(lists)
        found.clear()
        self.assertEqual(len(whole_box(lists)), 2)


class ByChance(unittest.TestCase):
    def test_as_the_document_determines_them(self):
        chance = random.Random(91)
        for frame in some_frames(90, 50):
            frame = without_gravity(frame)
            lists = some_lists(chance, frame)
            self.assertTrue(fit(frame, lists))
            box = [tuple(sorted(chance.sample(range(len(names)), chance.randint(1, len(names))))) for _, names in lists]
            choice = [chance.choice(places) for places in box]
            chosen = with_choice(frame, lists, choice)
            self.assertEqual(write_frame(chosen), searching.with_choice(frame, lists, choice))
            self.assertEqual(frac(weight_of(chosen)), searching.weight_of(chosen))
            self.assertEqual(frac(least_weight(frame, lists, box)), searching.least_weight(frame, lists, box))
