import random
import unittest
from fractions import Fraction
from itertools import combinations

import reference
from making import some_frame, some_paper, structure, whole
from plain import plain
from reference import pair
from standfast.papers.ground import Site
from standfast.papers.losses import left
from standfast.papers.walk import leap, walk
from standfast.papers.yielding import YieldPaper
from standfast.ratios import ratio

MILLION = 10 ** 6
ONE = (1, 1)


def bars(kinds):
    """Bars beside one another along x, each with the row 4, the scale 2, and bearing 2 both ways.

    The factor is 1 for "t", which yields, for "s", which breaks by pull, and for "u", which breaks by push; it lies
    from 1/4 to 1 for "v", which breaks by push.
    """
    lines = ["section t stiff 64 64 pull 8 push 8", "section s stiff 64 64 pull 8 push 8 breaks pull",
             "section u stiff 64 64 pull 8 push 8 breaks push", "section v stiff 64 256 pull 8 push 8 breaks push",
             "joint a 0 0 x y", "joint b 4 0 y"]
    lines += [f"member m{at} a b {kind}" for at, kind in enumerate(kinds)]
    return structure("\n".join(lines))


def paper(*forces, margin=(1, 2), movement=(1, 4)):
    """A paper whose own strains are all 1, and with the margin 1/2: a sum is the square of the distance."""
    return YieldPaper((whole(*forces), (movement,)), (), margin)


def roots(*millionths):
    return [Fraction(n, MILLION) for n in millionths]


class Leaps(unittest.TestCase):
    def test_the_root_of_the_sum(self):
        made = left(bars("ttt"), [2], ONE)
        self.assertEqual(leap(made, paper(2, 1, 7), paper(5, -3, 9)), (5, 1))
        self.assertEqual(leap(made, paper(2, 1, 0), paper(1, 3, 0)), pair(Fraction(2236068, MILLION)))
        self.assertEqual(leap(made, paper(2, 1, 0), paper(2, 1, 5)), (0, 1))

    def test_the_upper_bound_of_the_factor(self):
        made = structure("section s stiff 16 64 pull 8 push 8\njoint a 0 0 x y\njoint b 4 0 y\nmember m a b s")
        self.assertEqual(made.factors, (whole(1, 4),))
        self.assertEqual(leap(made, paper(0), paper(3)), (6, 1))

    def test_lists_that_are_too_short_or_too_long(self):
        made = left(bars("ttt"), [0], ONE)
        self.assertEqual(leap(made, paper(7, 1, 2, 9), paper(8, 4)), pair(Fraction(3605552, MILLION)))
        self.assertEqual(leap(made, paper(), paper(1, 3, 4)), (5, 1))
        self.assertEqual(leap(left(made, [1, 2], ONE), paper(1, 2, 3), paper(4, 5, 6)), (0, 1))


class Walks(unittest.TestCase):
    def test_nothing_may_be_lost(self):
        # The start is 1 + 0 + 1.
        self.assertEqual(walk(bars("ttt"), [], 0, ONE, {(): paper(2, 1, 0)}), ([()], pair(roots(1414214)[0] ** 2)))
        self.assertEqual(walk(bars("ttt"), [0, 2], 0, ONE, {(): paper(2, 1, 0)}), ([()], pair(roots(1414214)[0] ** 2)))
        self.assertEqual(walk(bars("ttt"), [], 3, ONE, {(): paper(1, 1, 1)}), ([()], (0, 1)))
        found = walk(bars("ttt"), [], 0, ONE, {(): paper(1, 1, 5, margin=(3, 4))})
        self.assertEqual(found, ([()], (32, 3)))

    def test_one_member_may_be_lost(self):
        papers = {(): paper(1, 1, 5), (1,): paper(4, 7, 9, margin=ONE), (2,): paper(1, 2, 0)}
        # The distances: 4, 4 + root of 9 + 16, 4 + root of 1.
        self.assertEqual(walk(bars("ttt"), [2], 1, ONE, papers), ([(), (2,)], (16 + 25, 1)))
        self.assertEqual(walk(bars("ttt"), [1], 1, ONE, papers), ([(), (1,)], (2 * 16 + 81, 2)))
        # The greatest sum goes on with the greater one of both.
        self.assertEqual(walk(bars("ttt"), [1, 2], 1, ONE, papers), ([(), (1,), (2,)], (2 * 16 + 81, 2)))

    def test_two_members_may_be_lost(self):
        papers = {(): paper(1, 1, 5), (0,): paper(9, 1, 7), (2,): paper(1, 4, 9), (0, 2): paper(9, 2, 9)}
        # 4, then 4 + 2 and 6 + 1 by the loss of 0 first, 4 + 3 and 7 + 2 by the loss of 2 first.
        found = walk(bars("ttt"), [0, 2], 2, ONE, papers)
        self.assertEqual(found, ([(), (0,), (0, 2), (2,), (0, 2)], (16 + 49 + 81, 1)))
        self.assertEqual(walk(bars("ttt"), [0, 2], 1, ONE, papers), ([(), (0,), (2,)], (16 + 49, 1)))
        # More may be lost than there is to lose.
        self.assertEqual(walk(bars("ttt"), [0, 2], 3, ONE, papers), found)

    def test_the_start_of_the_first_paper_alone_counts(self):
        papers = {(): paper(1, 1, 1), (0,): paper(1, 1, 1, movement=(9, 1))}
        self.assertEqual(walk(bars("ttt"), [0], 1, ONE, papers), ([(), (0,)], (0, 1)))

    def test_a_weak_member(self):
        # The distance is the root of 1: 2 + 1 is more than 2, and 1 + 1 is not.
        papers = {(): paper(2, 1, 1), (0,): paper(0, 1, 1), (0, 1): paper(0, 0, 1)}
        self.assertEqual(walk(bars("sst"), [], 0, ONE, papers), ([(), (0,)], (2, 1)))
        self.assertEqual(walk(bars("tst"), [], 0, ONE, papers), ([()], (1, 1)))
        self.assertIsNone(walk(bars("sst"), [], 0, ONE, {(): paper(2, 1, 1)}))
        # The distance is 3 if the first bar is pushed with 2: 2 + 3 is more than 2, and -1 + 3 is not.
        papers = {(): paper(-2, 1, 1), (0,): paper(0, 1, 1)}
        self.assertEqual(walk(bars("uut"), [], 0, ONE, papers), ([(), (0,)], (18, 1)))
        self.assertEqual(walk(bars("sut"), [], 0, ONE, papers), ([()], (9, 1)))

    def test_just_kept_away(self):
        # Here all own strains are 0, and the distance is the root of 1 and a force multiplied by itself.
        def sets(force, kinds="st"):
            papers = {(): YieldPaper((force, ()), (), ONE), (0,): paper(0, 0)}
            return walk(bars(kinds), [], 0, ONE, papers)[0]
        self.assertEqual(sets(((3, 4), ONE)), [()])
        # 3/4 and 5/4 come to 2.
        self.assertEqual(sets(((750001, MILLION), ONE)), [(), (0,)])
        # With the reach 4 the distance 1 comes to 2: so nothing may push.
        self.assertEqual(sets(((0, 1), ONE), "vt"), [()])
        self.assertEqual(sets(((-1, MILLION), ONE), "vt"), [(), (0,)])

    def test_members_stay_weak_on_the_way(self):
        # At the first set m1 is weak; it may be lost behind the loss of m0 as well, where it would not be weak.
        papers = {(): paper(1, 2, 1), (0,): paper(9, 0, 1), (1,): paper(1, 9, 1), (0, 1): paper(9, 9, 1)}
        found = walk(bars("tst"), [0], 1, ONE, papers)
        # Distances: 1; 1 + 2 and 3 + 0 by m0 first; 1 + 0 and 1 + 0 by m1 first.
        self.assertEqual(found, ([(), (0,), (0, 1), (1,), (0, 1)], (1 + 9 + 9, 1)))

    def test_members_become_weak_on_the_way(self):
        papers = {(): paper(1, 1, 1), (0,): paper(9, 3, 1), (0, 1): paper(9, 9, 1), (1,): paper(1, 9, 1)}
        # The distance is 0 at first, then 2: 3 + 2 is more than 2.
        found = walk(bars("tst"), [0], 1, ONE, papers)
        self.assertEqual(found, ([(), (0,), (0, 1)], (0 + 4 + 4, 1)))
        self.assertEqual(walk(bars("ttt"), [0], 1, ONE, papers), ([(), (0,)], (4, 1)))

    def test_to_lose_a_weak_member_leaves_as_many_that_may_be_lost(self):
        papers = {(): paper(2, 1, 1), (0,): paper(9, 1, 1), (2,): paper(2, 1, 9), (0, 2): paper(9, 1, 9)}
        # m0 is weak at once and losable, too: behind its loss one more may be lost.
        found = walk(bars("stt"), [0, 2], 1, ONE, papers)
        self.assertEqual(found, ([(), (0,), (0, 2), (2,), (0, 2)], (3, 1)))

    def test_both_sides_may_break(self):
        made = structure("section s stiff 64 64 pull 8 push 8 breaks both\njoint a 0 0 x y\njoint b 4 0 y\nmember m a b s\n"
                         "member n b a s")
        empty = YieldPaper(((), ()), (), ONE)
        for force in (3, -3):
            # The distance is 3, more than the second bar bears beside any force.
            papers = {(): YieldPaper((whole(force), ()), (), ONE), (0,): empty, (1,): empty, (0, 1): empty}
            self.assertEqual(walk(made, [], 0, ONE, papers)[0], [(), (0,), (0, 1), (1,), (0, 1)])

    def test_the_blow_counts(self):
        # Behind the loss of m0 its blow pulls with 4 times 2 times the strike; m1 has no rise by that but by the pair.
        made = bars("ts")
        calm = {(): paper(1, 1), (0,): paper(0, 1), (0, 1): paper(0, 0)}
        self.assertEqual(walk(made, [0], 1, ONE, calm)[0], [(), (0,)])
        blown = dict(calm)
        blown[(0,)] = YieldPaper((whole(0, 1), ((1, 4),)), [[(whole(0, 2), ((1, 2),)), (whole(0, -2), ((-1, 2),))]], (1, 2))
        self.assertEqual(walk(made, [0], 1, ONE, blown)[0], [(), (0,), (0, 1)])

    def test_a_paper_is_missing(self):
        papers = {(): paper(1, 1, 5), (0,): paper(9, 1, 7), (2,): paper(1, 4, 9), (0, 2): paper(9, 2, 9)}
        for lost in papers:
            fewer = {other: papers[other] for other in papers if other != lost}
            self.assertIsNone(walk(bars("ttt"), [0, 2], 2, ONE, fewer))
        self.assertIsNone(walk(bars("ttt"), [], 0, ONE, {}))
        # Papers of sets that do not come up are not needed, and do not matter.
        more = dict(papers)
        more[(1,)] = paper(100, 100, 100)
        self.assertEqual(walk(bars("ttt"), [0, 2], 2, ONE, more), walk(bars("ttt"), [0, 2], 2, ONE, papers))

    def test_what_is_handed_in_stays_as_it_was(self):
        made, losable = bars("sts"), [0, 2]
        papers = {(): paper(1, 1, 5), (0,): paper(9, 1, 7), (2,): paper(1, 4, 9), (0, 2): paper(9, 2, 9)}
        before = plain((made, losable)), list(papers), plain(list(papers.values()))
        found = walk(made, losable, 2, ONE, papers)
        self.assertEqual((plain((made, losable)), list(papers), plain(list(papers.values()))), before)
        found[0].clear()
        self.assertEqual(walk(made, losable, 2, ONE, papers)[0][0], ())


class Lengths(unittest.TestCase):
    """Twelve members may be lost, one at once. At some sets, more members are weak, and all their orders come up."""

    def found(self, weak):
        """The walk if at the sets of one lost member as many of the last four members are weak as told, in order."""
        made = bars("t" * 12 + "s" * 4)
        papers = {(): YieldPaper(((), ()), (), ONE)}
        for lost, many in enumerate(weak):
            # The leap is below 2, but more than 2 minus these forces.
            force = ((0, 1), (3, 2), (6, 5), ONE, ONE)[many]
            forces = [(0, 1)] * 12 + [force if k < many else (0, 1) for k in range(4)]
            for others in self.subsets(range(12, 12 + many)):
                papers[(lost, *others)] = YieldPaper((forces, ()), (), ONE)
        return walk(made, list(range(12)), 1, ONE, papers)

    def subsets(self, items):
        return [chosen for many in range(len(items) + 1) for chosen in combinations(items, many)]

    def test_just_300_sets_and_more(self):
        # Sets of one lost member give 1, 2, 5, 16 and 65 sets for 0 to 4 weak ones.
        sets, greatest = self.found([4, 4, 4, 4, 3, 3, 1, 0, 0, 0, 0, 0])
        self.assertEqual(len(sets), 300)
        self.assertEqual(sets[:5], [(), (0,), (0, 12), (0, 12, 13), (0, 12, 13, 14)])
        # The distance is 2 behind four forces of 1, at five sets, and the margin 1.
        self.assertEqual(greatest, (10, 1))
        self.assertIsNone(self.found([4, 4, 4, 4, 3, 3, 1, 1, 0, 0, 0, 0]))
        self.assertIsNone(self.found([4] * 12))


class ManyThatMayBeLost(unittest.TestCase):
    """Bars of which nothing breaks."""

    def found(self, many, lose):
        lines = ["section s stiff 1 2 pull 5 push 4", "joint a 0 0 x y", "joint b 4 0 y", "dead at b 2 0"]
        made = structure("\n".join(lines + [f"member m{k} a b s error -1/9 1/4" for k in range(many)]))
        given = YieldPaper(([ratio(k - 3, 2) for k in range(many)], ()), [], (1, 3))
        papers = {lost: given for lost in reference.loss_sets(range(many), lose)}
        return walk(made, list(range(many)), lose, ONE, papers), reference.Model(made).start(given)

    def test_too_many_sets(self):
        self.assertIsNone(self.found(9, 3)[0])

    def test_145_sets(self):
        (sets, greatest), first = self.found(12, 2)
        expected = [()]
        for k in range(12):
            expected += [(k,)] + [tuple(sorted((k, other))) for other in range(12) if other != k]
        self.assertEqual(sets, expected)
        self.assertEqual(len(sets), 145)
        # All bases are the same, so that each leap is 0: three sets one behind another, each with 3/2 of the square.
        self.assertEqual(greatest, pair(reference.above(first) ** 2 * 9 / 2))

    def test_just_300_sets_and_more(self):
        for many, lose, sets in ((17, 2, 290), (18, 2, None), (299, 1, 300), (300, 1, None), (3, 9, 16), (7, 3, 260),
                                 (7, 4, None)):
            found, _ = self.found(many, lose)
            self.assertEqual(None if found is None else len(found[0]), sets)

    def test_nothing_is_too_long_by_members_that_are_not_there(self):
        made = bars("ttt")
        papers = {(): paper(1, 1, 1), (2,): paper(1, 1, 5)}
        self.assertEqual(walk(made, [2, 2, *range(7, 700)], 1, ONE, papers), ([(), (2,)], (0, 1)))


class ByChance(unittest.TestCase):
    def test_as_the_document_determines_them(self):
        chance = random.Random(59)
        lengths = []
        for _ in range(200):
            site = Site(some_frame(chance))
            made = site.structure
            if len(made.rows) > 4:
                continue
            structures = {}
            for many in range(len(made.rows) + 1):
                for lost in combinations(range(len(made.rows)), many):
                    structures[lost] = left(made, list(lost), site.blow)
            papers = {lost: some_paper(chance, structures[lost]) for lost in structures}
            found = walk(made, list(site.losable), site.lose, site.blow, papers)
            sets, greatest = reference.walk(structures, site.losable, site.lose, papers)
            self.assertEqual(found, (sets, pair(greatest)))
            lengths.append(len(sets))
        self.assertTrue(len(set(lengths)) > 8, lengths)
