import random
import unittest
from itertools import product

import searching
from making import some_frames, some_lists, without_gravity
from plain import plain
from reference import frac, pair
from standfast.errors import InvalidLists
from standfast.finding.verdict import found_borne, found_bounds
from standfast.frames.reading import read_frame
from standfast.lightest.lists import whole_box, with_choice
from standfast.lightest.search import lightest
from standfast.lightest.trees import is_right, least_of
from standfast.papers.ground import Site
from standfast.papers.judge import accepts
from standfast.papers.kinds import Borne, Bounds

# Bars of length 4: r, s and t bear 4, 8 and 12 at b, and weigh 4, 8 and 12.
TEXT = """
section r stiff 64 64 pull 4 push 4 weight 1
section s stiff 64 64 pull 8 push 8 weight 2
section t stiff 64 64 pull 12 push 12 weight 3
joint a 0 0 x y
joint b 4 0 y
member m a b r
member o a b r
dead at b {} 0
"""
LISTS = [(["m"], ["r", "s", "t"]), (["o"], ["t", "s"])]
HEAVY, OPEN = ("heavy",), ("open",)


def frame_of(x, text=TEXT):
    return read_frame(text.format(x))


class Told(unittest.TestCase):
    def check(self, frame, boxes, choice, weight, least, tree, lists=LISTS):
        before = plain((frame, lists))
        found = lightest(frame, lists, boxes)
        self.assertEqual(plain((frame, lists)), before)
        self.assertEqual((found[:3], found[4]), ((choice, weight, least), tree))
        box = whole_box(lists)
        if choice is None:
            self.assertIsNone(found[3])
        else:
            self.assertEqual(type(choice), list)
            self.assertTrue(accepts(Site(with_choice(frame, lists, choice)), found[3]))
            self.assertTrue(is_right(frame, lists, box, weight, tree))
            self.assertEqual(least_of(frame, lists, box, weight, tree), least)
        return found

    def test_one_box(self):
        # Nothing falls, and no choice was examined: t and t bear 24.
        self.check(frame_of(11), 1, None, None, (12, 1), ("split", 0, (0,), OPEN, OPEN))
        self.check(frame_of(25), 1, None, None, None, ("fall", (), (), [(0, (1, 1))]))

    def test_a_few_boxes(self):
        # r and (t or s), then r and t, which weighs 16.
        tree = ("split", 0, (0,), ("split", 1, (0,), OPEN, OPEN), OPEN)
        self.check(frame_of(11), 2, None, None, (12, 1), tree)
        tree = ("split", 0, (0,), ("split", 1, (0,), HEAVY, OPEN), OPEN)
        found = self.check(frame_of(11), 3, [0, 0], (16, 1), (12, 1), tree)
        self.assertIsInstance(found[3], Bounds)
        tree = ("split", 0, (0,), ("split", 1, (0,), HEAVY, HEAVY), OPEN)
        self.check(frame_of(11), 4, [0, 1], (12, 1), (12, 1), tree)

    def test_enough_boxes(self):
        tree = ("split", 0, (0,), ("split", 1, (0,), HEAVY, HEAVY), HEAVY)
        for boxes in (5, 6, 100):
            self.check(frame_of(11), boxes, [0, 1], (12, 1), (12, 1), tree)
        # r and s bear 12, but leave no margin; forces for the base load alone are there all the same.
        found = self.check(frame_of(12), 100, [0, 1], (12, 1), (12, 1), tree)
        self.assertIsInstance(found[3], Borne)

    def test_a_paper_of_bounds_comes_first(self):
        found = lightest(frame_of(11), LISTS, 100)[3]
        chosen = Site(with_choice(frame_of(11), LISTS, [0, 1]))
        self.assertEqual(plain(found), plain(found_bounds(chosen)))
        self.assertIsNotNone(found_borne(chosen))

    def test_falls_of_boxes(self):
        # r and t bear 16, s and t 20, t and t 24.
        fall = ("fall", (), (), [(0, (1, 2))])
        tree = ("split", 0, (0,), fall, ("split", 0, (1,), ("split", 1, (0,), HEAVY, ("fall", (), (), [(0, (1, 2))])), HEAVY))
        self.check(frame_of(18), 100, [1, 0], (20, 1), (20, 1), tree)

    def test_nothing_stands(self):
        self.check(frame_of(99), 100, None, None, None, ("fall", (), (), [(0, (1, 75))]))
        # The bars break, so that nothing but bounds would do, and no margin is left; but nothing falls.
        breaking = TEXT.replace("weight", "breaks both weight")
        self.check(frame_of(24, breaking), 100, None, None, (24, 1), OPEN, [(["m"], ["t"]), (["o"], ["t"])])

    def test_a_choice_that_does_not_stand_stays_open(self):
        breaking = TEXT.replace("weight", "breaks both weight").replace("member o a b r\n", "")
        lists = [(["m"], ["s", "t"])]
        # With s it bears 8, just without a margin.
        self.check(frame_of(8, breaking), 100, [1], (12, 1), (8, 1), ("split", 0, (0,), OPEN, HEAVY), lists)

    def test_without_lists(self):
        self.check(frame_of(7), 100, [], (8, 1), (8, 1), HEAVY, [])
        self.check(frame_of(9), 100, None, None, None, ("fall", (), (), [(0, (1, 1))]), [])
        self.check(read_frame(""), 1, [], (0, 1), (0, 1), HEAVY, [])

    def test_the_first_list_with_the_most_indices_is_split(self):
        lists = [(["m"], ["r", "s"]), (["o"], ["r", "s", "t"]), ([], ["r", "s", "t"])]
        self.check(frame_of(1), 2, None, None, (8, 1),
                   ("split", 1, (0,), ("split", 2, (0,), OPEN, OPEN), OPEN), lists)
        lists = [(["m"], ["r", "s", "t", "t", "s"])]
        self.check(frame_of(1), 1, None, None, (8, 1), ("split", 0, (0, 1), OPEN, OPEN), lists)

    def test_lists_that_do_not_fit(self):
        for frame, lists in ((frame_of(1), [(["m"], [])]), (frame_of(1), [(["m"], ["z"])]),
                             (frame_of(1, TEXT + "gravity 0 -1"), LISTS), (frame_of(1, TEXT + "ask p z 1 0"), LISTS)):
            self.assertRaises(InvalidLists, lightest, frame, lists, 5)


class ByChance(unittest.TestCase):
    def test_as_the_document_determines_them(self):
        chance = random.Random(97)
        kinds = {}
        for frame in some_frames(97, 70):
            frame = without_gravity(frame)
            lists = some_lists(chance, frame)
            boxes = chance.choice((1, 2, 5, 100))
            choice, weight, least, paper, tree = lightest(frame, lists, boxes)
            expected = searching.search(frame, lists, boxes)
            self.assertEqual((choice, plain(paper), tree), (expected[0], plain(expected[3]), expected[4]))
            self.assertEqual((weight, least), tuple(None if x is None else pair(x) for x in expected[1:3]))
            kinds[(tree[0], choice is not None)] = True
        self.assertTrue({("fall", False), ("split", True), ("split", False), ("heavy", True)} <= set(kinds), kinds)

    def test_the_lightest_of_all_that_stand(self):
        chance = random.Random(96)
        seen = 0
        for frame in some_frames(96, 40):
            frame = without_gravity(frame)
            lists = some_lists(chance, frame)[:2]
            choice, weight, least, _, tree = lightest(frame, lists, 100)
            weights = []
            for other in product(*whole_box(lists)):
                chosen = with_choice(frame, lists, list(other))
                if searching.standing_paper(chosen) is not None:
                    weights.append(searching.weight_of(chosen))
            self.assertEqual(choice is None, not weights)
            if weights:
                seen += 1
                self.assertEqual(frac(weight), min(weights))
                self.assertLessEqual(frac(least), min(weights))
                self.assertTrue(is_right(frame, lists, whole_box(lists), weight, tree))
        self.assertGreater(seen, 10)
