import unittest
from fractions import Fraction

import searching
from making import some_frames, structure, whole
from plain import plain
from reference import frac, pair
from standfast.elastic.pairs import pair_of
from standfast.finding.verdict import found_bounds, found_borne, found_site_falls, found_site_turns
from standfast.frames.problems import problems
from standfast.frames.reading import read_frame
from standfast.papers.ground import Site, choices
from standfast.papers.judge import accepts, verdict_of
from standfast.papers.kinds import Borne, Bounds, Falls, SetPaper, Turns
from standfast.papers.movements import bounds_of, unit_load
from standfast.papers.walk import walk
from standfast.papers.yielding import YieldPaper

TINY = Fraction(1, 10 ** 12)
# Bars along x with the row 4 and the factor 1. The strong ones bear 10 both ways, the weak ones 1/2.
TEXT = """
section r stiff 64 64 pull 40 push 40
section w stiff 64 64 pull 2 push 2
joint a 0 0 x y
joint b 4 0 y
member m a b r
dead at b 4 0
group g
case at b 2 0
case
ask p b 1 0
ask q b -2 0
"""
WEAK = TEXT + "member n a b w losable\nmember o a b w losable\nlose 1\n"
# Here the bars that may be lost bear 2: just what the base load, the case, a blow and the margin come to.
LOSABLE = WEAK.replace("pull 2 push 2", "pull 8 push 8")


def site_of(text):
    frame = read_frame(text)
    assert problems(frame) == []
    return Site(frame)


def elastic(made, margin=(1, 8)):
    """The paper of all elastic pairs."""
    return YieldPaper(pair_of(made, made.base), [[pair_of(made, load) for load in loads] for loads in made.groups], margin)


def set_paper(site, lost, margin=(1, 8)):
    made = site.behind(lost)
    return SetPaper(lost, elastic(made, margin), [pair_of(made, unit_load(row)) for row in site.asked])


class Accepted(unittest.TestCase):
    def test_nothing_may_be_lost(self):
        site = site_of(TEXT)
        paper = Bounds([set_paper(site, ())])
        self.assertIs(accepts(site, paper), True)
        # All factors are known, and nothing is made wrong: the start is 0, and so is the total.
        total, movements = verdict_of(site, paper)
        self.assertEqual(total, (0, 1))
        # The bar becomes longer by 1 by the dead load, and by 1/2 by the case; this is 4 times the movement.
        self.assertEqual(movements, [((1, 4), (3, 8)), ((-3, 4), (-1, 2))])
        self.assertEqual((type(movements), type(movements[0])), (list, tuple))

    def test_errors_and_a_total(self):
        site = site_of(TEXT.replace("m a b r", "m a b r error -1/16 1/8"))
        # The start is 4 (2 times 2), the margin 1/8.
        total, movements = verdict_of(site, Bounds([set_paper(site, ())]))
        self.assertEqual(total, (16, 1))
        # The unit force is 1/4, the share too; it is divided by the scale 10 for the slip, and wrong is 2 times it.
        extra = Fraction(16, 40) + Fraction(2, 4)
        self.assertEqual(movements[0], (pair(Fraction(1, 4) - extra), pair(Fraction(3, 8) + extra)))
        self.assertEqual(movements[1], (pair(-Fraction(3, 4) - 2 * extra), pair(-Fraction(1, 2) + 2 * extra)))

    def test_nothing_is_asked(self):
        site = site_of(TEXT.replace("ask p b 1 0\nask q b -2 0\n", ""))
        paper = Bounds([set_paper(site, ())])
        self.assertTrue(accepts(site, paper))
        self.assertEqual(verdict_of(site, paper), ((0, 1), []))

    def test_several_sets(self):
        site = site_of(LOSABLE)
        given = [set_paper(site, lost, margin) for lost, margin in (((), (1, 8)), ((1,), (1, 9)), ((2,), (1, 10)))]
        paper = Bounds(given)
        self.assertTrue(accepts(site, paper))
        total, movements = verdict_of(site, paper)
        # The base load 4 gives each of three bars 1/3, each of two 1/2: leaps are the root of 1/36 and 1/36.
        leap = Fraction(235703, 10 ** 6)
        self.assertEqual(frac(total), leap ** 2 / 2 * 10)
        self.assertEqual(walk(site.structure, [1, 2], 1, (1, 1), {item.lost: item.paper for item in given}),
                         ([(), (1,), (2,)], total))
        for at, row in enumerate(site.asked):
            bounds = [bounds_of(site.behind(item.lost), item.paper, item.units[at], row, total) for item in given]
            self.assertEqual(movements[at], (min((low for low, _ in bounds), key=frac),
                                             max((high for _, high in bounds), key=frac)))
            # The first set is not the one that counts, as behind losses there are blows.
            self.assertNotEqual(movements[at][0], bounds[0][0])

    def test_the_order_of_set_papers_does_not_matter(self):
        site = site_of(LOSABLE)
        given = [set_paper(site, lost) for lost in ((2,), (), (1,))]
        self.assertTrue(accepts(site, Bounds(given)))
        self.assertEqual(verdict_of(site, Bounds(given)), verdict_of(site, Bounds(given[::-1])))

    def test_weak_members_follow(self):
        # The weak bars break, and come to 1/3 or 2/3, more than 1/2, while nothing may be lost.
        site = site_of(TEXT.replace("push 2", "push 2 breaks both") + "member n a b w\n")
        first, second = set_paper(site, ()), set_paper(site, (1,))
        self.assertFalse(accepts(site, Bounds([first])))
        # The first paper does not hold: the base gives the weak bar 1/2, and the case more.
        self.assertFalse(accepts(site, Bounds([first, second])))
        base, pairs = first.paper.base, first.paper.pairs
        # Now nothing is left of it but the rise 1/4, so that 1/2 is borne; but the distance is 1/2 times 2.
        bent = YieldPaper((whole(1, 0), base[1]), pairs, (1, 100))
        better = SetPaper((), bent, first.units)
        self.assertFalse(accepts(site, Bounds([better])))
        self.assertTrue(accepts(site, Bounds([better, second])))
        total, _ = verdict_of(site, Bounds([better, second]))
        # The distance: the root of 1/4 and 1/4 from above; the leap: 0, as the other bar is not there.
        self.assertEqual(frac(total), Fraction(707107, 10 ** 6) ** 2 * (50 + 4))

    def test_what_is_handed_in_stays_as_it_was(self):
        site = site_of(LOSABLE)
        paper = Bounds([set_paper(site, lost) for lost in ((), (1,), (2,))])
        before = plain((site, paper))
        accepts(site, paper)
        found = verdict_of(site, paper)
        self.assertEqual(plain((site, paper)), before)
        found[1].clear()
        self.assertEqual(len(verdict_of(site, paper)[1]), 2)


class NotAccepted(unittest.TestCase):
    def setUp(self):
        self.site = site_of(LOSABLE)
        self.given = [set_paper(self.site, lost) for lost in ((), (1,), (2,))]

    def check(self, *given):
        self.assertIs(accepts(self.site, Bounds(given)), False)

    def with_margin(self, item, margin):
        return SetPaper(item.lost, YieldPaper(item.paper.base, item.paper.pairs, margin), item.units)

    def test_accepted_as_they_are(self):
        self.assertTrue(accepts(self.site, Bounds(self.given)))

    def test_a_set_twice(self):
        self.check(*self.given, self.given[0])
        self.check(*self.given, self.given[2])
        other = set_paper(self.site, (1, 2))
        self.assertTrue(accepts(self.site, Bounds([*self.given, other])))
        self.check(*self.given, other, other)

    def test_margins(self):
        for margin in ((0, 1), (-1, 8)):
            for at in range(3):
                changed = list(self.given)
                changed[at] = self.with_margin(changed[at], margin)
                self.check(*changed)
            self.check(*self.given, self.with_margin(set_paper(self.site, (1, 2)), margin))

    def test_a_set_without_a_paper(self):
        self.check()
        for at in range(3):
            self.check(*self.given[:at], *self.given[at + 1:])

    def test_a_yield_paper_that_does_not_hold(self):
        for at in range(3):
            changed = list(self.given)
            changed[at] = self.with_margin(changed[at], (20, 1))
            self.check(*changed)
            item = self.given[at]
            forces = list(item.paper.base[0])
            forces[0] = pair(frac(forces[0]) + TINY)
            changed[at] = SetPaper(item.lost, YieldPaper((forces, item.paper.base[1]), item.paper.pairs, (1, 8)),
                                   item.units)
            self.check(*changed)

    def test_unit_pairs(self):
        for at in range(3):
            item, changed = self.given[at], list(self.given)
            (forces, moved), second = item.units
            for units in ((), item.units[:1], (*item.units, second), (((), ()), ((), ())), (second, second)):
                changed[at] = SetPaper(item.lost, item.paper, units)
                self.check(*changed)
            off = (pair(frac(forces[0]) + TINY), *forces[1:])
            changed[at] = SetPaper(item.lost, item.paper, ((off, moved), second))
            self.check(*changed)
            # Movements of unit pairs may be any, and what is beyond is ignored.
            changed[at] = SetPaper(item.lost, item.paper, (((*forces, (7, 1)), whole(9, 9)), second))
            self.assertTrue(accepts(self.site, Bounds(changed)))

    def test_sets_that_do_not_come_up_are_ignored(self):
        nothing = YieldPaper(((), ()), (), (1, 1))
        for lost in ((1, 2), (0,), (0, 1, 2), (9,)):
            more = [*self.given, SetPaper(lost, nothing, ())]
            self.assertTrue(accepts(self.site, Bounds(more)))
            self.assertEqual(verdict_of(self.site, Bounds(more)), verdict_of(self.site, Bounds(self.given)))

    def test_a_walk_that_is_too_long(self):
        # Nothing acts, and the first bar bears all blows. All papers are alike: just those of their sets.
        lines = TEXT.replace("dead at b 4 0\n", "").split("group g")[0] + "\n".join(
            f"member n{k} a b w losable" for k in range(9))
        for lose, many in ((2, 1 + 9 + 72), (3, None)):
            site = site_of(lines + f"\nlose {lose}")
            paper = Bounds([set_paper(site, lost) for lost in site.sets()])
            self.assertIs(accepts(site, paper), many is not None)


class ForcesForAll(unittest.TestCase):
    def setUp(self):
        # What the bars bear for sure: 10, 1/2 and 1/2; the blow of a weak bar is 4 times 1/2.
        self.text = WEAK
        self.site = site_of(self.text)
        self.first = [((3, 2), (0, 1), (0, 1)), ((1, 1), (0, 1), (0, 1))]
        behind = [((2, 1), (0, 1), (0, 1)), ((1, 1), (0, 1), (0, 1)), ((3, 2), (0, 1), (0, 1)), ((1, 2), (0, 1), (0, 1))]
        self.sets = [self.first, behind, behind]

    def check(self, forces, accepted=False, site=None):
        self.assertIs(accepts(site or self.site, Borne(forces)), accepted)

    def changed(self, at, choice, forces):
        sets = [list(several) for several in self.sets]
        sets[at][choice] = forces
        return sets

    def test_accepted(self):
        self.assertEqual(self.site.sets(), [(), (2,), (1,)])
        self.assertEqual(choices(self.site.behind((2,))), [[0, 0], [0, 1], [1, 0], [1, 1]])
        self.check(self.sets, True)

    def test_other_forces(self):
        self.check(self.changed(0, 0, ((1, 2), (1, 2), (1, 2))), True)
        self.check(self.changed(0, 0, ((1, 2), (1, 2), (1, 3))))

    def test_a_side_that_breaks(self):
        self.check(self.sets, False, site_of(self.text.replace("pull 2 push 2", "pull 2 push 2 breaks push")))
        self.check(self.sets, False, site_of(self.text.replace("push 40", "push 40 breaks pull")))
        self.check(self.sets, True, site_of(self.text + "section z stiff 1 1 pull 1 push 1 breaks both"))

    def test_lists_too_few_and_too_many(self):
        self.check(self.sets[:2])
        self.check([*self.sets, self.sets[2]])
        self.check([])
        self.check([self.first[:1], *self.sets[1:]])
        self.check([[*self.first, self.first[1]], *self.sets[1:]])
        self.check([self.sets[0], self.sets[1][:3], self.sets[2]])
        self.check([self.sets[0], self.sets[1], []])

    def test_at_the_bound_and_beyond_it(self):
        self.check(self.changed(0, 0, ((5, 2), (-1, 2), (-1, 2))), True)
        self.check(self.changed(0, 0, (pair(Fraction(5, 2) + TINY), pair(-Fraction(1, 2) - TINY), (-1, 2))))
        self.check(self.changed(0, 0, ((1, 2), (1, 2), (1, 2))), True)
        self.check(self.changed(0, 0, (pair(Fraction(1, 2) - TINY), (1, 2), pair(Fraction(1, 2) + TINY))))
        self.check(self.changed(2, 1, ((3, 2), (7, 1), (-1, 2))), True)
        self.check(self.changed(2, 1, (pair(Fraction(3, 2) + TINY), (7, 1), pair(-Fraction(1, 2) - TINY))))

    def test_out_of_balance(self):
        for at, several in enumerate(self.sets):
            for choice, forces in enumerate(several):
                self.check(self.changed(at, choice, (pair(frac(forces[0]) + TINY), *forces[1:])))

    def test_lists_of_forces_that_are_too_short_or_too_long(self):
        self.check(self.changed(0, 0, ((3, 2),)), True)
        self.check(self.changed(0, 0, ((1, 1), (1, 2))), True)
        self.check(self.changed(0, 0, ()))
        self.check(self.changed(0, 0, ((3, 2), (0, 1), (0, 1), (99, 1))), True)
        # What is told for lost members does not count.
        self.check(self.changed(1, 1, ((1, 1), (0, 1), (99, 1))), True)

    def test_what_is_borne_for_sure_counts(self):
        site = site_of(self.text.replace("pull 40 push 40", "pull 40 push 40 factor 1/10 1"))
        self.check(self.changed(0, 0, ((1, 2), (1, 2), (1, 2))), False, site)


class FallsAndTurns(unittest.TestCase):
    def fall(self, lost, choice=(0, 0), movement=((0, (1, 4)),)):
        amounts = [(2 * column, (1, 1)) for column in range(4 - len(lost))]
        return Falls(lost, choice, movement, amounts)

    def test_a_fall_of_a_set(self):
        # Behind the loss of n the bars bear 10, 10 and 1/2, which is 82 at b; with n they bear 122.
        text = TEXT.replace("at b 4 0", "at b {} 0") + "member n a b r losable\nmember o a b r\nmember p a b w\nlose 1"
        site = site_of(text.format(81))
        self.assertIs(accepts(site, self.fall((1,))), True)
        self.assertIs(accepts(site, self.fall((), (0,))), False)
        self.assertIs(accepts(site_of(text.format(80)), self.fall((1,))), False)
        # The second case does not pull, and the blow has no forces.
        self.assertFalse(accepts(site, self.fall((1,), (1, 0))))
        self.assertTrue(accepts(site, self.fall((1,), (0, 1))))
        for choice in ((0, 2), (0,), (0, 0, 0), (2, 0)):
            self.assertFalse(accepts(site, self.fall((1,), choice)))
        # No set of the site: not losable, too many, not ascending, twice, no member.
        for lost in ((0,), (2,), (1, 3), (1, 1), (9,), (-1,)):
            self.assertFalse(accepts(site, self.fall(lost, (0,) * (1 + len(lost)))))

    def test_sets_of_several_members(self):
        text = TEXT.replace("at b 4 0", "at b 90 0") + "member n a b r losable\nmember o a b r losable\nlose 2\n"
        site = site_of(text)
        fall = Falls((1, 2), (0, 0, 0), [(0, (1, 4))], [(0, (1, 1))])
        self.assertTrue(accepts(site, fall))
        self.assertFalse(accepts(site, Falls((2, 1), (0, 0, 0), [(0, (1, 4))], [(0, (1, 1))])))
        self.assertFalse(accepts(site_of(text.replace("lose 2", "lose 1")), fall))

    def test_turns_of_a_set(self):
        text = TEXT.replace("at b 4 0", "at b 41 0") + "member n a b r losable\nlose 1\n"
        site = site_of(text)
        made = site.bare((1,))
        pairs = [[pair_of(made, load) for load in loads] for loads in made.groups]
        # The bar bears 10: the gain is 41 times 1/4 minus 10; the rise against it by the case 0 is none.
        turns = Turns((1,), [(0, (1, 0), (1, 1))], [(0, (1, 4))], pairs)
        self.assertIs(accepts(site, turns), True)
        self.assertIs(accepts(site, Turns((), turns.yields, turns.movement, pairs)), False)
        self.assertIs(accepts(site, Turns((0,), turns.yields, turns.movement, pairs)), False)
        self.assertIs(accepts(site, Turns((1,), turns.yields, [(0, (1, 5))], pairs)), False)
        self.assertIs(accepts(site, Turns((1,), (), turns.movement, pairs)), False)
        lighter = site_of(text.replace("at b 41 0", "at b 40 0"))
        self.assertIs(accepts(lighter, turns), False)


class ByChance(unittest.TestCase):
    def test_papers_of_bounds(self):
        seen = {}
        for frame in some_frames(71, 70):
            site = Site(frame)
            found = found_bounds(site)
            if found is None:
                continue
            sets = [(item.lost, item.paper, item.units) for item in found.sets]
            self.check_bounds(site, sets, True)
            seen[len(sets)] = True
            for at, (lost, paper, units) in enumerate(sets):
                other = YieldPaper(paper.base, paper.pairs, pair(frac(paper.margin) * 5 / 2))
                short = YieldPaper((paper.base[0], ()), paper.pairs, paper.margin)
                for changed in ((lost, other, units), (lost, short, units)):
                    self.check_bounds(site, [*sets[:at], changed, *sets[at + 1:]], None)
        self.assertTrue(len(seen) > 2, seen)

    def check_bounds(self, site, sets, accepted):
        paper = Bounds([SetPaper(*given) for given in sets])
        expected = searching.judged(site, sets)
        self.assertIs(accepts(site, paper), expected is not None)
        if accepted is not None:
            self.assertIs(expected is not None, accepted)
        if expected is not None:
            total, movements = expected
            self.assertEqual(verdict_of(site, paper), (pair(total), [(pair(a), pair(b)) for a, b in movements]))

    def test_found_papers_of_other_kinds(self):
        seen = {}
        for frame in some_frames(74, 80):
            site = Site(frame)
            for find_paper in (found_borne, found_site_falls, found_site_turns):
                paper = find_paper(site)
                if paper is not None:
                    self.assertTrue(accepts(site, paper))
                    seen[paper.kind] = seen.get(paper.kind, 0) + 1
        self.assertTrue(len(seen) == 3 and min(seen.values()) > 2, seen)


class Frames(unittest.TestCase):
    def test_a_structure_without_components(self):
        site = site_of("")
        paper = Bounds([SetPaper((), YieldPaper(((), ()), (), (1, 1)), ())])
        self.assertTrue(accepts(site, paper))
        self.assertEqual(verdict_of(site, paper), ((0, 1), []))
        self.assertTrue(accepts(site, Borne([[()]])))
        self.assertFalse(accepts(site, Borne([[]])))
        self.assertEqual(structure("").rows, ())
