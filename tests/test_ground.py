import random
import unittest

from making import some_frame, structure
from plain import plain
from reference import loss_sets
from standfast.frames.reading import read_frame
from standfast.papers.falls import is_choice
from standfast.papers.ground import Site, choices
from standfast.papers.losses import left, left_bare
from standfast.structure.build import asked_rows, build

TEXT = """
section s stiff 32 64 pull 8 push 4
joint a 0 0 x y
joint b 4 0
member m a b s losable
member n a b s
member o a b s losable
lose 2 blow 5/2
ask p b 1 0
ask q b 0 -2
"""


class Sites(unittest.TestCase):
    def test_attributes(self):
        frame = read_frame(TEXT)
        before = plain(frame)
        site = Site(frame)
        self.assertEqual(plain(frame), before)
        self.assertEqual(plain(site.structure), plain(build(frame)))
        self.assertEqual((site.losable, site.lose, site.blow), ((0, 2), 2, (5, 2)))
        self.assertEqual(site.asked, (((0, (1, 1)),), ((1, (-2, 1)),)))

    def test_nothing_losable(self):
        site = Site(read_frame(TEXT.replace(" losable", "").replace("lose 2 blow 5/2", "")))
        self.assertEqual((site.losable, site.lose, site.blow), ((), 0, (1, 1)))
        self.assertEqual(site.sets(), [()])
        self.assertEqual(plain(Site(read_frame("")).asked), ())

    def test_sets(self):
        self.assertEqual(Site(read_frame(TEXT)).sets(), [(), (2,), (0,), (0, 2)])
        site = Site(read_frame(TEXT.replace("lose 2", "lose 1")))
        self.assertEqual(site.sets(), [(), (2,), (0,)])
        site.sets().clear()
        self.assertEqual(site.sets(), [(), (2,), (0,)])
        self.assertEqual(Site(read_frame(TEXT.replace("lose 2", "lose 0"))).sets(), [()])

    def test_behind(self):
        site = Site(read_frame(TEXT))
        before = plain(site)
        self.assertEqual(plain(site.behind(())), plain(site.structure))
        self.assertEqual(plain(site.behind((0, 1))), plain(left(site.structure, [0, 1], (5, 2))))
        blow = site.behind((2,)).groups[0]
        # The row is 4 at b x, the scale 2, the strike 3/2.
        self.assertEqual([load.force for load in blow], [((0, (12, 1)),), ((0, (-12, 1)),)])
        self.assertEqual(plain(site), before)

    def test_bare(self):
        site = Site(read_frame(TEXT))
        self.assertEqual(plain(site.bare(())), plain(site.structure))
        self.assertEqual(plain(site.bare((0, 2))), plain(left_bare(site.structure, [0, 2])))
        self.assertEqual([[load.force for load in group] for group in site.bare((2,)).groups], [[(), ()]])

    def test_by_chance(self):
        chance = random.Random(69)
        for _ in range(60):
            frame = some_frame(chance)
            site = Site(frame)
            self.assertEqual(site.losable, tuple(k for k, member in enumerate(frame.members) if member.losable))
            self.assertEqual(site.sets(), loss_sets(site.losable, frame.lose))
            self.assertEqual(list(site.asked), asked_rows(frame))
            for lost in site.sets():
                self.assertEqual(plain(site.behind(lost)), plain(left(site.structure, list(lost), frame.blow)))
                self.assertEqual(plain(site.bare(lost)), plain(left_bare(site.structure, list(lost))))


class Choices(unittest.TestCase):
    def test_without_groups(self):
        self.assertEqual(choices(structure("")), [[]])

    def test_one_group(self):
        self.assertEqual(choices(structure("group g\ncase")), [[0]])
        self.assertEqual(choices(structure("group g\ncase\ncase\ncase")), [[0], [1], [2]])

    def test_several_groups(self):
        made = structure("group g\ncase\ncase\ngroup h\ncase\ngroup i\ncase\ncase\ncase")
        expected = [[0, 0, 0], [0, 0, 1], [0, 0, 2], [1, 0, 0], [1, 0, 1], [1, 0, 2]]
        self.assertEqual(choices(made), expected)
        self.assertTrue(all(is_choice(made, choice) for choice in expected))
        found = choices(made)
        found[0].append(9)
        found.clear()
        self.assertEqual(choices(made), expected)

    def test_settling_and_blows_are_groups(self):
        site = Site(read_frame(TEXT.replace("joint a 0 0 x y", "joint a 0 0 x 1 1 y 0 1")))
        self.assertEqual(choices(site.structure), [[0, 0], [0, 1]])
        self.assertEqual(choices(site.behind((0,))), [[0, 0, 0], [0, 0, 1], [0, 1, 0], [0, 1, 1]])
        self.assertEqual(choices(site.bare((0,))), choices(site.behind((0,))))
