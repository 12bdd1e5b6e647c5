import unittest

from making import some_frames, whole
from plain import plain
from standfast.errors import (
    FrameHasProblems, InvalidEdit, InvalidFactors, InvalidFrame, InvalidLists, InvalidLoss, NothingToUndo,
)
from standfast.finding.bearing import most_limits, raising, sure_limits
from standfast.finding.verdict import verdict
from standfast.frames.reading import read_frame
from standfast.frames.writing import write_frame
from standfast.house import House
from standfast.lightest.search import lightest
from standfast.lightest.trees import read_tree, write_tree
from standfast.papers.codes import read_paper, write_paper
from standfast.papers.ground import Site
from standfast.structure.build import build
from standfast.trials.state import Truth, middle_truth
from standfast.trials.trial import Trial

TEXT = """section r stiff 64 64 pull 40 push 40 weight 2
section s stiff 1 1 pull 8 push 8 factor 0.5 1 weight 1/3
joint a 0 0 x y
joint b 4 0 y
member m a b r
member n a b s losable
member o a b s losable
dead at b 2 0
group g
case at b 3 0
case
lose 1
ask p b 1 0
"""
# Alone among these edits it has a fault, or leads to problems.
FAULT, PROBLEM = "joint", "lose 3"


class Edits(unittest.TestCase):
    def test_the_text(self):
        self.assertEqual(House(TEXT).text(), TEXT)
        loose = "# a roof\n" + TEXT.replace("dead at b 2 0", "  dead   at b 2.0 0  # always")
        self.assertEqual(House(loose).text(), TEXT)
        self.assertEqual(House("").text(), "")

    def test_texts_that_are_refused(self):
        self.assertRaises(InvalidFrame, House, TEXT + "joint z")
        self.assertRaises(FrameHasProblems, House, TEXT + "ask q z 1 0")
        # A fault comes before problems.
        self.assertRaises(InvalidFrame, House, TEXT + "ask q z 1 0\njoint z")

    def test_an_edit(self):
        house = House(TEXT)
        self.assertIsNone(house.edit("dead at b 5 0\nwithout ask p"))
        self.assertEqual(house.text(), TEXT.replace("at b 2 0", "at b 5 0").replace("ask p b 1 0\n", ""))

    def test_refused_edits_change_nothing(self):
        house = House(TEXT)
        house.edit("dead at b 4 0")
        house.edit("dead at b 5 0")
        house.undo()
        for text, error in ((FAULT, InvalidEdit), (PROBLEM, FrameHasProblems), ("without joint z", InvalidEdit),
                            ("without joint a", FrameHasProblems), ("dead at b 7 0\n" + FAULT, InvalidEdit),
                            ("dead at b 7 0\n" + PROBLEM, FrameHasProblems), (PROBLEM + "\n" + FAULT, InvalidEdit)):
            self.assertRaises(error, house.edit, text)
            self.assertEqual(house.text(), TEXT.replace("at b 2 0", "at b 4 0"))
        # The edit that was undone can be done again all the same, and the first one can be undone.
        house.redo()
        self.assertEqual(house.text(), TEXT.replace("at b 2 0", "at b 5 0"))
        house.undo()
        house.undo()
        self.assertEqual(house.text(), TEXT)
        self.assertRaises(NothingToUndo, house.undo)

    def test_problems_on_the_way_do_not_matter(self):
        house = House(TEXT)
        house.edit("without member n\nlose 2\nmember n a b r losable")
        self.assertIn("lose 2\n", house.text())

    def test_an_edit_that_changes_nothing_is_an_edit(self):
        house = House(TEXT)
        house.edit("")
        house.edit("lose 1")
        self.assertEqual(house.text(), TEXT)
        house.undo()
        house.undo()
        self.assertRaises(NothingToUndo, house.undo)
        house.redo()
        house.edit("# nothing at all")
        self.assertRaises(NothingToUndo, house.redo)

    def test_undo_and_redo_to_their_ends(self):
        house = House(TEXT)
        self.assertRaises(NothingToUndo, house.undo)
        self.assertRaises(NothingToUndo, house.redo)
        texts = [house.text()]
        for x in range(5):
            house.edit(f"dead at b {x} 1")
            texts.append(house.text())
        self.assertEqual(len(set(texts)), 6)
        for _ in range(2):
            self.assertRaises(NothingToUndo, house.redo)
            for text in reversed(texts[:-1]):
                self.assertIsNone(house.undo())
                self.assertEqual(house.text(), text)
            self.assertRaises(NothingToUndo, house.undo)
            self.assertEqual(house.text(), TEXT)
            for text in texts[1:]:
                self.assertIsNone(house.redo())
                self.assertEqual(house.text(), text)

    def test_an_edit_after_an_undo(self):
        house = House(TEXT)
        house.edit("dead at b 3 0")
        house.edit("dead at b 4 0")
        house.undo()
        house.edit("dead at b 5 0")
        self.assertRaises(NothingToUndo, house.redo)
        self.assertIn("dead at b 5 0", house.text())
        house.undo()
        self.assertIn("dead at b 3 0", house.text())
        house.undo()
        self.assertEqual(house.text(), TEXT)

    def test_100_edits_and_more(self):
        for many in (99, 100, 101, 130):
            house = House(TEXT)
            for x in range(1, many + 1):
                house.edit(f"dead at b {x} 3")
            left = min(many, 100)
            for _ in range(left):
                house.undo()
            self.assertRaises(NothingToUndo, house.undo)
            first = many - left
            self.assertEqual(house.text(), TEXT if first == 0 else TEXT.replace("at b 2 0", f"at b {first} 3"))
            for _ in range(left):
                house.redo()
            self.assertRaises(NothingToUndo, house.redo)
            self.assertIn(f"dead at b {many} 3", house.text())
            for _ in range(left):
                house.undo()
            self.assertRaises(NothingToUndo, house.undo)


class Verdicts(unittest.TestCase):
    def test_the_kind_and_the_text(self):
        for load, kind in (("2", "bounds"), ("99", "falls")):
            house = House(TEXT.replace("dead at b 2 0", f"dead at b {load} 0"))
            frame = read_frame(house.text())
            found = house.verdict()
            self.assertEqual(found[0], kind)
            self.assertEqual(found, (kind, write_paper(verdict(Site(frame))[1])))
            self.assertEqual(plain(read_paper(found[1])), plain(verdict(Site(frame))[1]))

    def test_open(self):
        house = House(TEXT.replace("factor 0.5 1", "factor 1/9 9 breaks both"))
        house.edit("dead at b 60 0")
        self.assertEqual(house.verdict(), ("open", None))

    def test_the_frame_as_it_is_now(self):
        house = House(TEXT)
        house.edit("dead at b 99 0")
        self.assertEqual(house.verdict()[0], "falls")
        house.undo()
        self.assertEqual(house.verdict()[0], "bounds")

    def test_by_chance(self):
        for frame in some_frames(102, 15):
            kind, paper = verdict(Site(frame))
            self.assertEqual(House(write_frame(frame)).verdict(), (kind, None if paper is None else write_paper(paper)))


class Raisings(unittest.TestCase):
    def test_sure_and_most(self):
        house = House(TEXT)
        # The bars bear 10, 1 and 1 for sure, and 10, 2 and 2 at most: 48 or 56 at b.
        self.assertEqual(house.raising([]), (("up to", (46, 3)), ("up to", (18, 1))))
        # Behind a loss, its blow 4 times 2 is raised as well.
        self.assertEqual(house.raising(["n"]), (("up to", (42, 11)), ("up to", (46, 11))))
        self.assertEqual(house.raising(["o"]), house.raising(["n"]))

    def test_as_what_is_left_behind_the_loss(self):
        house = House(TEXT.replace("lose 1", "lose 2 blow 3"))
        site = Site(read_frame(house.text()))
        for names, lost in (([], ()), (["n"], (1,)), (["o", "n"], (1, 2)), (["n", "o"], (1, 2))):
            given = list(names)
            behind = site.behind(lost)
            expected = raising(behind, sure_limits(behind)), raising(behind, most_limits(behind))
            self.assertEqual(house.raising(given), expected)
            self.assertEqual(given, names)

    def test_losses_that_are_refused(self):
        house = House(TEXT.replace("lose 1", "lose 2"))
        for names in (["m"], ["z"], ["n", "n"], ["n", "m"], ["n", "o", "n"], [""]):
            self.assertRaises(InvalidLoss, house.raising, names)
        house.edit("lose 1")
        self.assertRaises(InvalidLoss, house.raising, ["n", "o"])
        house.edit("lose 0")
        self.assertRaises(InvalidLoss, house.raising, ["n"])
        self.assertEqual(house.raising([])[0][0], "up to")


class Lightests(unittest.TestCase):
    lists = [(["n", "o"], ["r", "s", "r"])]

    def test_names_and_texts(self):
        house = House(TEXT.replace("lose 1", "lose 0"))
        frame = read_frame(house.text())
        for boxes in (1, 2, 3, 10):
            choice, weight, least, paper, tree = lightest(frame, self.lists, boxes)
            found = house.lightest(self.lists, boxes)
            names = None if choice is None else [["r", "s", "r"][index] for index in choice]
            text = None if paper is None else write_paper(paper)
            self.assertEqual(found, (names, weight, least, text, write_tree(tree)))
            self.assertIs(type(found), tuple)
            self.assertEqual(read_tree(found[4]), tree)
        self.assertEqual((names, weight), (["s"], (32, 3)))

    def test_none_is_found(self):
        house = House(TEXT.replace("dead at b 2 0", "dead at b 999 0"))
        found = house.lightest(self.lists, 9)
        self.assertEqual(found[:4], (None, None, None, None))
        self.assertEqual(read_tree(found[4])[0], "fall")

    def test_lists_that_do_not_fit(self):
        house = House(TEXT)
        self.assertRaises(InvalidLists, house.lightest, [(["n"], [])], 9)
        self.assertRaises(InvalidLists, house.lightest, [(["n"], ["z"])], 9)
        house.edit("gravity 0 -1")
        self.assertRaises(InvalidLists, house.lightest, self.lists, 9)

    def test_the_frame_stays_as_it_is(self):
        house = House(TEXT)
        lists = [(["n", "o"], ["s", "r"])]
        house.lightest(lists, 3)
        house.raising(["n"])
        house.verdict()
        self.assertEqual((house.text(), lists), (TEXT, [(["n", "o"], ["s", "r"])]))


class Trials(unittest.TestCase):
    def test_a_trial(self):
        house = House(TEXT)
        made = build(read_frame(TEXT))
        trial = house.trial(middle_truth(made))
        self.assertIs(type(trial), Trial)
        self.assertTrue(trial.step([whole(0, 1)]))
        # The factors are 1, 64 and 64.
        self.assertEqual(trial.forces(), ((16, 33), (1, 132), (1, 132)))
        other = house.trial(middle_truth(made))
        self.assertEqual(other.moments(), 0)
        house.edit("dead at b 6 0")
        trial.step([whole(0, 1)])
        self.assertEqual(trial.forces(), ((16, 33), (1, 132), (1, 132)))
        other = house.trial(middle_truth(made))
        other.step([whole(0, 1)])
        self.assertEqual(other.forces(), ((16, 11), (1, 44), (1, 44)))

    def test_a_truth_that_does_not_fit(self):
        self.assertRaises(InvalidFactors, House(TEXT).trial, Truth((), (), ()))
        house = House(TEXT)
        truth = middle_truth(build(read_frame(TEXT)))
        house.edit("without member o")
        self.assertRaises(InvalidFactors, house.trial, truth)
