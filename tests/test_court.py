import ast
import pathlib
import random
import unittest

from making import some_frames, some_lists, without_gravity
from plain import plain
from standfast.court import judge, judge_lightest
from standfast.errors import (
    FrameHasProblems, InvalidChoice, InvalidFrame, InvalidLists, InvalidPaper, InvalidTree,
)
from standfast.finding.verdict import found_borne, found_bounds, found_site_falls, found_site_turns, verdict
from standfast.frames.reading import read_frame
from standfast.frames.writing import write_frame
from standfast.house import House
from standfast.lightest.lists import weight_of, whole_box, with_choice
from standfast.lightest.search import lightest
from standfast.lightest.trees import least_of, read_tree, write_tree
from standfast.papers.codes import write_paper
from standfast.papers.ground import Site
from standfast.papers.judge import verdict_of
from standfast.papers.kinds import Falls

TEXT = """section r stiff 64 64 pull 40 push 40 weight 2
section s stiff 64 64 pull 8 push 8 weight 1/3
joint a 0 0 x y
joint b 4 0 y
member m a b r
member n a b s losable
dead at b {} 0
lose 1
ask p b 1 0
ask q b -2 0
"""
GOOD, LATER = TEXT.format(2), "standfast falls\n0 0 0 0\n"
WRONG_FRAME, PROBLEM = GOOD + "joint", GOOD + "ask z z 1 0"


class Judging(unittest.TestCase):
    def test_bounds(self):
        site = Site(read_frame(GOOD))
        paper = found_bounds(site)
        total, movements = verdict_of(site, paper)
        found = judge(GOOD, write_paper(paper))
        self.assertEqual(found, ("bounds", total, [("p", *movements[0]), ("q", *movements[1])]))
        self.assertEqual((type(found), type(found[2]), type(found[2][0])), (tuple, list, tuple))
        # The bar m alone bears the base load 2 and the blow 8, both ways: from -6 to 10.
        self.assertLessEqual(found[2][0][2][0], found[2][0][2][1])

    def test_the_other_kinds(self):
        for x, find_paper in ((46, found_site_falls), (46, found_site_turns), (1, found_borne)):
            text = TEXT.format(x)
            paper = find_paper(Site(read_frame(text)))
            self.assertEqual(judge(text, write_paper(paper)), (paper.kind, None, []))

    def test_not_accepted(self):
        for find_paper in (found_bounds, found_borne):
            paper = write_paper(find_paper(Site(read_frame(GOOD))))
            self.assertIsNotNone(judge(GOOD, paper))
            self.assertIsNone(judge(TEXT.format(3), paper))
        for find_paper in (found_site_falls, found_site_turns):
            paper = write_paper(find_paper(Site(read_frame(TEXT.format(46)))))
            self.assertIsNotNone(judge(TEXT.format(46), paper))
            self.assertIsNone(judge(GOOD, paper))
        for text in ("standfast bounds\n0\n", "standfast borne\n0\n", LATER, "standfast turns\n0 0 0 0\n"):
            self.assertIsNone(judge(GOOD, text))

    def test_errors(self):
        paper = write_paper(found_bounds(Site(read_frame(GOOD))))
        self.assertRaises(InvalidFrame, judge, WRONG_FRAME, paper)
        self.assertRaises(FrameHasProblems, judge, PROBLEM, paper)
        for text in ("", "standfast bounds\n", paper[:-1], paper + "\n", "standfast nothing\n0\n", "standfast bounds\n1\n"):
            self.assertRaises(InvalidPaper, judge, GOOD, text)
        # The first one counts.
        self.assertRaises(InvalidFrame, judge, PROBLEM + "\njoint", "")
        self.assertRaises(FrameHasProblems, judge, PROBLEM, "")

    def test_verdicts_of_houses(self):
        kinds = set()
        for frame in some_frames(103, 40):
            text = write_frame(frame)
            kind, paper = House(text).verdict()
            if paper is not None:
                kinds.add(kind)
                found = judge(text, paper)
                self.assertEqual(found[0], kind)
                if kind == "bounds":
                    site = Site(frame)
                    total, movements = verdict_of(site, verdict(site)[1])
                    names = [asked.name for asked in frame.asked]
                    self.assertEqual(found[1:], (total, [(name, *both) for name, both in zip(names, movements)]))
                else:
                    self.assertEqual(found[1:], (None, []))
        self.assertTrue({"bounds", "falls"} <= kinds, kinds)

    def test_the_judge_uses_nothing_that_the_program_finds(self):
        top = pathlib.Path(__file__).resolve().parent.parent
        seen, left = set(), ["standfast.court"]
        while left:
            name = left.pop()
            tree = ast.parse((top / (name.replace(".", "/") + ".py")).read_text())
            further = [node.module for node in ast.walk(tree) if isinstance(node, ast.ImportFrom)
                       and node.module.startswith("standfast.")]
            left += [module for module in further if module not in seen]
            seen.update(further)
        self.assertIn("standfast.papers.judge", seen)
        self.assertEqual([name for name in seen if name.startswith(("standfast.finding", "standfast.trials"))], [])


class JudgingTheLightest(unittest.TestCase):
    text = TEXT.replace("lose 1\n", "").format(30)
    lists = [(["m"], ["s", "r", "s"]), (["n", "nobody"], ["r", "s"])]

    def setUp(self):
        self.frame = read_frame(self.text)
        self.choice, self.weight, self.least, paper, tree = lightest(self.frame, self.lists, 100)
        self.names = [sections[index] for (_, sections), index in zip(self.lists, self.choice)]
        self.paper, self.tree = write_paper(paper), write_tree(tree)

    def check(self, found, text=None, lists=None, names=None, paper=None, tree=None):
        lists, names = lists or self.lists, self.names if names is None else names
        before = plain((lists, names))
        self.assertEqual(judge_lightest(text or self.text, lists, names, paper or self.paper, tree or self.tree), found)
        self.assertEqual(plain((lists, names)), before)

    def fails(self, error, text=None, lists=None, names=None, paper="", tree=""):
        self.assertRaises(error, judge_lightest, text or self.text, lists or self.lists,
                          self.names if names is None else names, paper or self.paper, tree or self.tree)

    def test_accepted(self):
        # Two bars with r and s bear 48; both with s bear 16.
        self.assertEqual((self.names, self.weight, self.least), (["s", "r"], (28, 3), (28, 3)))
        self.check((self.weight, self.least))
        self.assertEqual(type(judge_lightest(self.text, self.lists, self.names, self.paper, self.tree)), tuple)

    def test_a_least_below_the_weight(self):
        self.check((self.weight, (8, 3)), tree="standfast lighter\n2\n")
        self.check((self.weight, (28, 3)), tree="standfast lighter\n3 1 1 0 2 3 0 1 1 0 1 0 0 1 0 1/4\n")

    def test_a_tree_that_is_not_right(self):
        self.check(None, tree="standfast lighter\n0\n")
        self.check(None, tree="standfast lighter\n1 0 0 0\n")
        self.check(None, tree="standfast lighter\n3 1 1 1 2 3 0 1 1 0 1 0 0 1 0 1/4\n")
        self.check(None, tree="standfast lighter\n3 1 2 1 0 2 2\n")

    def test_papers_of_another_kind(self):
        fall = Falls((), (), [(0, (1, 4))], [(0, (1, 1))])
        self.check(None, paper=write_paper(fall))
        self.check(None, paper="standfast turns\n0 0 0 0\n")
        # An accepted one is not taken either.
        heavy = self.text.replace("at b 30 0", "at b 999 0")
        paper = write_paper(found_site_falls(Site(with_choice(read_frame(heavy), self.lists, self.choice))))
        self.assertEqual(judge(write_frame(with_choice(read_frame(heavy), self.lists, self.choice)), paper)[0], "falls")
        self.check(None, text=heavy, paper=paper, tree="standfast lighter\n2\n")

    def test_a_paper_of_borne(self):
        chosen = Site(with_choice(self.frame, self.lists, self.choice))
        self.check((self.weight, self.least), paper=write_paper(found_borne(chosen)))

    def test_papers_that_are_not_accepted(self):
        self.check(None, paper="standfast bounds\n0\n")
        self.check(None, paper="standfast borne\n0\n")
        self.check(None, names=["r", "s"])
        self.check(None, names=["r", "r"])

    def test_the_weight_of_the_named_choice_is_the_limit(self):
        other = Site(with_choice(self.frame, self.lists, [1, 0]))
        paper = write_paper(found_bounds(other))
        # Trees whose boxes weigh at least 28/3, but less than 16.
        self.check(None, names=["r", "r"], paper=paper)
        self.check(((16, 1), (8, 3)), names=["r", "r"], paper=paper, tree="standfast lighter\n2\n")

    def test_a_name_that_stands_twice(self):
        lists = [(["m"], ["s", "r", "s"]), (["n"], ["r", "s", "r"])]
        self.check((self.weight, (8, 3)), lists=lists, tree="standfast lighter\n2\n")
        # The first section with this name is meant; the weight is the same.
        self.assertEqual(weight_of(with_choice(self.frame, lists, [2, 2])), self.weight)

    def test_errors_in_their_order(self):
        faults = [
            (InvalidFrame, {"text": self.text + "joint"}),
            (FrameHasProblems, {"text": self.text + "ask z z 1 0"}),
            (InvalidLists, {"lists": [(["m"], ["z"]), (["n"], ["r"])]}),
            (InvalidLists, {"lists": [(["m"], []), (["n"], ["r"])]}),
            (InvalidLists, {"text": self.text + "gravity 1 0"}),
            (InvalidChoice, {"names": []}),
            (InvalidChoice, {"names": ["s"]}),
            (InvalidChoice, {"names": ["s", "r", "r"]}),
            (InvalidChoice, {"names": ["z", "r"]}),
            (InvalidChoice, {"names": ["m", "r"]}),
            (InvalidPaper, {"paper": "standfast bounds\n"}),
            (InvalidTree, {"tree": "standfast lighter\n4\n"}),
        ]
        for at, (error, wrong) in enumerate(faults):
            self.fails(error, **wrong)
            for later, more in faults[at:]:
                self.fails(error, **{**more, **wrong})
        # Errors come before the answer None.
        self.fails(InvalidTree, paper="standfast falls\n0 0 0 0\n", tree="standfast lighter\n4\n")

    def test_found_ones(self):
        seen = 0
        chance = random.Random(9)
        for frame in some_frames(104, 30):
            frame = without_gravity(frame)
            lists = some_lists(chance, frame)
            names, weight, least, paper, tree = House(write_frame(frame)).lightest(lists, 50)
            if names is None:
                continue
            seen += 1
            found = judge_lightest(write_frame(frame), lists, names, paper, tree)
            self.assertEqual(found, (weight, least))
            self.assertEqual(least_of(frame, lists, whole_box(lists), weight, read_tree(tree)), least)
        self.assertGreater(seen, 8)
