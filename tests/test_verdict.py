import unittest

import searching
from making import some_frames
from plain import plain
from standfast.elastic.pairs import pair_of
from standfast.finding.bearing import bearing_forces, found_fall, sure_limits
from standfast.finding.verdict import (
    found_borne, found_bounds, found_site_falls, found_site_turns, if_accepted, verdict,
)
from standfast.finding.yields import found_turns, found_yield_paper
from standfast.frames.problems import problems
from standfast.frames.reading import read_frame
from standfast.papers.ground import Site, choices
from standfast.papers.judge import accepts, verdict_of
from standfast.papers.kinds import Borne, Bounds, Falls, SetPaper, Turns
from standfast.papers.movements import unit_load
from standfast.papers.walk import walk

# Bars along x with the row 4 and the factor 1: strong ones bear 10 both ways, weak ones 1/2.
TEXT = """
section r stiff 64 64 pull 40 push 40
section w stiff 64 64 pull 2 push 2
joint a 0 0 x y
joint b 4 0 y
member m a b r
"""
ASKED = "ask p b 1 0\n"
# At the weak bars nothing but blows may act.
LOSABLE = TEXT + "member n a b w losable\nmember o a b r losable\nlose 1\n" + ASKED


def site_of(text):
    frame = read_frame(text)
    assert problems(frame) == [], problems(frame)
    return Site(frame)


class FoundBounds(unittest.TestCase):
    def check(self, site, sets):
        """The set papers are those that are found for what is left, in this order."""
        found = found_bounds(site)
        self.assertIs(type(found), Bounds)
        self.assertEqual([item.lost for item in found.sets], sets)
        for item in found.sets:
            behind = site.behind(item.lost)
            units = tuple(pair_of(behind, unit_load(row)) for row in site.asked)
            self.assertEqual(plain(item), plain(SetPaper(item.lost, found_yield_paper(behind), units)))
        self.assertTrue(accepts(site, found))
        papers = {item.lost: item.paper for item in found.sets}
        passed, total = walk(site.structure, site.losable, site.lose, site.blow, papers)
        self.assertEqual(verdict_of(site, found)[0], total)
        self.assertEqual(list(dict.fromkeys(passed)), sets)

    def test_nothing_may_be_lost(self):
        self.check(site_of(TEXT + ASKED + "dead at b 3 0\ngroup g\ncase at b 1 0"), [()])
        self.check(site_of(""), [()])

    def test_the_order_of_the_set_papers(self):
        # The weak bars are soft: they hardly share the blows of one another.
        text = (TEXT + "member n a b w losable\nmember o a b r\nmember q b a w losable\n" + ASKED).replace(
            "section w stiff 64 64", "section w stiff 1 1")
        self.check(site_of(text + "lose 1"), [(), (1,), (3,)])
        self.check(site_of(text + "lose 2"), [(), (1,), (1, 3), (3,)])

    def test_weak_members_come_up(self):
        # The second bar breaks by little: its error of making alone drives it there.
        text = (TEXT + "section v stiff 64 64 pull 4 push 4 breaks both\nmember n a b v error 0 1/4\n" + ASKED)
        self.check(site_of(text), [(), (1,)])
        self.check(site_of(text.replace("error 0 1/4", "")), [()])

    def test_a_yield_paper_is_missing(self):
        self.assertIsNone(found_bounds(site_of(TEXT + "dead at b 40 0")))
        self.assertIsNotNone(found_bounds(site_of(TEXT + "dead at b 39.9 0")))
        # Behind the loss of o its blow is as much as all bars bear.
        self.assertIsNone(found_bounds(site_of(LOSABLE)))
        self.assertIsNotNone(found_bounds(site_of(LOSABLE.replace("lose 1", "lose 0"))))

    def test_a_unit_pair_is_missing(self):
        # Nothing but the losable bar holds c, so that a force at its idle movement has no pair.
        text = TEXT.replace("pull 40", "pull 400") + "joint c 0 4 x\nmember n a c w losable\nlose 1\n"
        self.assertIsNotNone(found_bounds(site_of(text + ASKED)))
        self.assertIsNone(found_bounds(site_of(text + "ask p c 0 1\n")))
        self.assertIsNotNone(found_bounds(site_of(text.replace("lose 1", "lose 0") + "ask p c 0 1\n")))

    def test_a_pair_is_missing(self):
        self.assertIsNone(found_bounds(site_of(TEXT.replace("joint b 4 0 y", "joint b 4 0"))))

    def test_a_walk_that_is_too_long(self):
        strong = TEXT.replace("pull 40 push 40", "pull 4000 push 4000").replace("section w stiff 64 64",
                                                                               "section w stiff 1 1")
        weak = "".join(f"member n{k} a b w losable\n" for k in range(7))
        # 1 + 7 + 42 sets, and 210 more and 840 more.
        for lose, is_found in ((2, True), (3, True), (4, False)):
            site = site_of(strong + weak + f"lose {lose}")
            self.assertIs(found_bounds(site) is not None, is_found)
            if is_found:
                self.assertEqual(len(found_bounds(site).sets), 1 + 7 + 21 + 35 * (lose == 3))


class FoundBorne(unittest.TestCase):
    def test_each_set_and_each_choice(self):
        site = site_of(LOSABLE.replace("member o a b r losable", "member o a b r") + "dead at b 1 0\n"
                       "group g\ncase at b 2 0\ncase at b -2 0")
        found = found_borne(site)
        self.assertIs(type(found), Borne)
        self.assertEqual(len(found.forces), 2)
        for lost, several in zip(site.sets(), found.forces):
            behind = site.behind(lost)
            expected = [bearing_forces(behind, choice, sure_limits(behind)) for choice in choices(behind)]
            self.assertEqual(list(several), expected)
        self.assertEqual((len(found.forces[0]), len(found.forces[1])), (2, 4))
        self.assertTrue(accepts(site, found))

    def test_a_choice_that_is_not_borne(self):
        text = TEXT + "dead at b 10 0\ngroup g\ncase at b 30 0\ncase at b {} 0"
        self.assertIsNotNone(found_borne(site_of(text.format(30))))
        self.assertIsNone(found_borne(site_of(text.format("30.001"))))
        self.assertIsNone(found_borne(site_of(LOSABLE + "dead at b 2.001 0")))
        # Behind the loss of o the blow 40 comes on top; 10 and 1/2 bear 42.
        self.assertIsNotNone(found_borne(site_of(LOSABLE + "dead at b 2 0")))

    def test_a_side_that_breaks(self):
        self.assertIsNotNone(found_borne(site_of(TEXT)))
        self.assertIsNone(found_borne(site_of(TEXT.replace("push 40", "push 40 breaks push"))))
        self.assertIsNotNone(found_borne(site_of(TEXT.replace("push 2", "push 2 breaks push"))))


class FoundOthers(unittest.TestCase):
    def test_the_first_set_that_falls(self):
        text = LOSABLE + "dead at b {} 0\ngroup g\ncase\ncase at b 5 0"
        self.assertIsNone(found_site_falls(site_of(text.format(37))))
        # Behind the loss of o, 10 and 1/2 are borne; behind that of n, 20.
        for pull, lost in ((38, (2,)), (76, (2,)), (83, ()), (90, ())):
            site = site_of(text.format(pull))
            found = found_site_falls(site)
            self.assertIs(type(found), Falls)
            self.assertEqual(found.lost, lost)
            choice, movement, amounts = found_fall(site.bare(lost))
            self.assertEqual((found.choice, found.movement, found.amounts),
                             (tuple(choice), tuple(movement), tuple(amounts)))
            self.assertTrue(accepts(site, found))

    def test_the_first_set_that_turns(self):
        text = LOSABLE + "dead at b {} 0\ngroup g\ncase\ncase at b 5 0"
        # The case pulls with 5, so that 37 and 5 are just what 10 and 1/2 bear.
        self.assertIsNone(found_site_turns(site_of(text.format(37))))
        for pull, lost in ((38, (2,)), (77, (2,)), (78, ()), (90, ())):
            site = site_of(text.format(pull))
            found = found_site_turns(site)
            self.assertIs(type(found), Turns)
            self.assertEqual(found.lost, lost)
            yields, movement, pairs = found_turns(site.bare(lost))
            self.assertEqual(plain(found), plain(Turns(lost, yields, movement, pairs)))
            self.assertTrue(accepts(site, found))


class Verdicts(unittest.TestCase):
    def check(self, text, kind, find_paper):
        site = site_of(text)
        before = plain(site)
        found = verdict(site)
        self.assertEqual(plain(found), (kind, plain(find_paper(site)) if find_paper else None))
        self.assertEqual(plain(site), before)

    def test_bounds(self):
        self.check(TEXT, "bounds", found_bounds)
        # All is borne as well.
        self.assertIsNotNone(found_borne(site_of(TEXT)))

    def test_falls(self):
        text = TEXT + "dead at b 41 0"
        self.check(text, "falls", found_site_falls)
        # It turns as well, but falls come first.
        self.assertIsNotNone(found_site_turns(site_of(text)))

    def test_bounds_come_before_falls(self):
        text = TEXT + "dead at b 39 0"
        self.assertIsNone(found_site_falls(site_of(text)))
        self.check(text, "bounds", found_bounds)

    # Two bars of which the first becomes much warmer and cold again: they yield in turn, but bear all loads.
    turning = TEXT + "member n a b r\ndead at b 60 0\ngroup g\ncase\ncase heat m 1.25"

    def test_turns_come_before_borne(self):
        site = site_of(self.turning)
        self.assertIsNone(found_bounds(site))
        self.assertIsNone(found_site_falls(site))
        self.assertIsNotNone(found_borne(site))
        self.check(self.turning, "turns", found_site_turns)

    def test_borne(self):
        # The base load is just what the bar bears: no margin above 0 is left, and nothing falls or turns.
        self.check(TEXT + "dead at b 40 0", "borne", found_borne)

    def test_open(self):
        self.check(TEXT.replace("push 40", "push 40 breaks push") + "dead at b 40 0", "open", None)
        # What is borne for sure and what is borne at most differ: 20 and 40.
        self.check(TEXT.replace("push 40", "push 40 factor 1/2 1") + "dead at b 30 0", "open", None)
        self.assertEqual(verdict(site_of(TEXT.replace("joint b 4 0 y", "joint b 4 0")))[0], "borne")

    def test_only_accepted_papers(self):
        site = site_of(TEXT + "dead at b 3 0")
        good = found_bounds(site)
        self.assertIs(if_accepted(site, good), good)
        self.assertIsNone(if_accepted(site, None))
        self.assertIsNone(if_accepted(site, Bounds([])))
        self.assertIsNone(if_accepted(site, Borne([[()]])))
        self.assertIsNone(if_accepted(site, Falls((), (), (), ())))
        self.assertIsNone(if_accepted(site, Turns((), (), (), ())))


class ByChance(unittest.TestCase):
    def test_as_the_document_determines_them(self):
        kinds = {}
        for frame in some_frames(84, 60):
            site = Site(frame)
            found, expected = found_bounds(site), searching.found_bounds(site)
            self.assertEqual(found is None, expected is None)
            if found is not None:
                self.assertEqual([plain((item.lost, item.paper, item.units)) for item in found.sets],
                                 [plain(given) for given in expected[0]])
            borne = found_borne(site)
            self.assertEqual(None if borne is None else borne.forces, searching.found_borne(site))
            kind, paper = verdict(site)
            kinds[kind] = kinds.get(kind, 0) + 1
            order = [found, found_site_falls(site), found_site_turns(site), borne]
            first = next((given for given in order if given is not None), None)
            self.assertEqual(plain(paper), plain(first))
            self.assertEqual(kind, "open" if first is None else first.kind)
        self.assertTrue({"bounds", "falls", "open", "borne"} <= set(kinds), kinds)
