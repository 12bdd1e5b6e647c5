"""What is promised of all calls of the whole program."""

import ast
import pathlib
import random
import unittest
from math import gcd

from making import some_frames, some_lists, without_gravity
from plain import plain
from standfast.court import judge, judge_lightest
from standfast.finding.bearing import bearing_forces, most_limits, raising, sure_limits
from standfast.finding.verdict import found_borne, found_bounds, found_site_falls, found_site_turns
from standfast.finding.yields import all_pairs
from standfast.frames.reading import read_frame
from standfast.frames.writing import write_frame
from standfast.house import House
from standfast.lightest.lists import least_weight, weight_of, whole_box
from standfast.lightest.trees import read_tree, write_tree
from standfast.measures.narrowing import narrowed
from standfast.papers.codes import read_paper, write_paper
from standfast.papers.ground import Site, choices
from standfast.papers.judge import accepts, verdict_of
from standfast.papers.turns import gain_and_lever
from standfast.structure.build import build
from standfast.structure.model import Load
from standfast.trials.state import middle_truth
from standfast.trials.trial import Trial

PACKAGE = pathlib.Path(__file__).resolve().parent.parent / "standfast"


class Ratios(unittest.TestCase):
    """All numbers are integers in lowest terms."""

    def check(self, *ratios):
        for a in ratios:
            self.assertEqual((type(a), [type(part) for part in a]), (tuple, [int, int]))
            self.assertTrue(a[1] >= 1 and gcd(*a) == 1, a)

    def check_pair(self, given):
        forces, movements = given
        self.check(*forces, *movements)

    def test_papers(self):
        kinds = {}
        for frame in some_frames(1, 60):
            site = Site(frame)
            for find_paper in (found_bounds, found_site_falls, found_site_turns, found_borne):
                paper = find_paper(site)
                if paper is None:
                    continue
                kinds[paper.kind] = True
                # Only ratios in lowest terms can be read again.
                text = write_paper(paper)
                self.assertEqual(plain(read_paper(text)), plain(paper))
                self.assertTrue(accepts(site, read_paper(text)))
                if paper.kind == "bounds":
                    total, movements = verdict_of(site, paper)
                    self.check(total, *[bound for both in movements for bound in both])
                if paper.kind == "turns":
                    given = (paper.yields, paper.movement, paper.pairs)
                    self.check(*gain_and_lever(site.bare(paper.lost), *given))
        self.assertEqual(len(kinds), 4)

    def test_what_is_found_for_structures(self):
        for frame in some_frames(2, 40):
            made = Site(frame).structure
            for limits in (sure_limits(made), most_limits(made)):
                self.check(*limits, *(bearing_forces(made, choices(made)[0], limits) or ()))
                _, a = raising(made, limits)
                self.check(*[] if a is None else [a])
            for group in all_pairs(made) or []:
                for given in group:
                    self.check_pair(given)
            found = narrowed(made, Load([(p, (1, 3)) for p in range(len(made.free))], ()), (1, 7), (2, 3))
            self.check(*[bound for both in (found[0] if found else []) for bound in both])

    def test_trials(self):
        for frame in some_frames(3, 40):
            made = build(frame)
            trial = Trial(made, middle_truth(made))
            for _ in range(3):
                if not trial.has_ended():
                    trial.step([[(1, 1)] + [(0, 1)] * (len(loads) - 1) for loads in made.groups])
                    self.check(*trial.forces(), *trial.movements(), trial.yielded())

    def test_houses_and_courts(self):
        chance = random.Random(4)
        seen = {True: 0, False: 0}
        for frame in some_frames(4, 30):
            text = write_frame(without_gravity(frame))
            house = House(text)
            kind, paper = house.verdict()
            if paper is not None:
                found = judge(house.text(), paper)
                self.assertEqual(found[0], kind)
                self.check(*[x for _, least, most in found[2] for x in (least, most)])
            for result in house.raising([]):
                self.check(*[] if result[1] is None else [result[1]])
            lists = some_lists(chance, frame)
            names, weight, least, paper, tree = house.lightest(lists, 9)
            self.assertEqual(write_tree(read_tree(tree)), tree)
            self.check(weight_of(read_frame(text)), least_weight(read_frame(text), lists, whole_box(lists)))
            self.check(*[x for x in (weight, least) if x is not None])
            seen[names is None] += 1
            if names is not None:
                self.assertEqual(judge_lightest(house.text(), lists, names, paper, tree), (weight, least))
        self.assertTrue(min(seen.values()) > 3, seen)


class Sources(unittest.TestCase):
    def test_no_clock_no_chance_no_files_and_no_floating_point(self):
        for file in PACKAGE.rglob("*.py"):
            for node in ast.walk(ast.parse(file.read_text())):
                if isinstance(node, ast.ImportFrom):
                    self.assertIn(node.module.split(".")[0], ("standfast", "math", "itertools", "heapq", "collections"))
                self.assertNotIsInstance(node, (ast.Import, ast.Div))
                if isinstance(node, ast.Constant):
                    self.assertNotIsInstance(node.value, (float, complex))
