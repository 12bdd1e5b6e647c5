import unittest
from fractions import Fraction

import searching
from making import some_frames, structure, whole
from plain import plain
from reference import Model, frac, pair
from standfast.elastic.pairs import pair_of
from standfast.finding.yields import all_pairs, found_turns, found_yield_paper
from standfast.papers.ground import Site
from standfast.papers.losses import left, left_bare
from standfast.papers.turns import gain_and_lever, turns
from standfast.papers.yielding import YieldPaper, yields_end
from standfast.structure.model import Structure

# A bar along x with the row 4, the factor from 1 to 2 and the scale 2: it bears 2 by pull and 1 by push, for sure.
BAR = "section s stiff 32 64 pull 8 push 4\njoint a 0 0 x y\njoint b 4 0 y\nmember m a b s\n"
# Rises of the pair of a force t: 3/2 t with its sign, and -5/8 t with the other one, for t above 0.
GROUP = "group g\ncase at b 1 0\ncase at b -1 0\ngroup h\ncase\ncase at b 0.4 0\n"
LOOSE = BAR.replace("joint b 4 0 y", "joint b 4 0")
TWICE = "section r stiff 64 64 pull 8 push 8\njoint a 0 0 x y\njoint b 4 0 y\nmember m a b r\nmember n a b r\n"


class Pairs(unittest.TestCase):
    def test_by_groups(self):
        made = structure(BAR + GROUP)
        found = all_pairs(made)
        self.assertEqual(found, [[pair_of(made, load) for load in loads] for loads in made.groups])
        self.assertEqual(found[0][0], (((1, 4),), ((3, 32),)))
        self.assertEqual(all_pairs(structure(BAR)), [])
        found.clear()
        self.assertEqual(len(all_pairs(made)), 2)

    def test_one_is_missing(self):
        self.assertIsNone(all_pairs(structure(LOOSE + GROUP)))
        self.assertEqual(all_pairs(structure(LOOSE)), [])
        # Behind the loss of the only bar of b its movement is idle.
        made = structure(BAR + "group g\ncase\ncase at b 1 0")
        self.assertIsNone(all_pairs(left_bare(made, [0])))
        self.assertEqual(all_pairs(left(structure(BAR), [0], (1, 1))), [[(whole(0), whole(0))] * 2])


class Papers(unittest.TestCase):
    def check(self, made, forces, margin):
        found = found_yield_paper(made)
        self.assertIs(type(found), YieldPaper)
        base = pair_of(made, made.base)
        expected = YieldPaper((forces, base[1]), all_pairs(made), margin)
        self.assertEqual(plain(found), plain(expected))
        self.assertTrue(yields_end(made, found))

    def test_half_of_the_greatest_margin(self):
        # Pull: 1/2 + 3/8 + 3/20 + 2 margin at most 2; push: -1/2 + 3/8 + 0 + 2 margin at most 1, 9/16.
        self.check(structure(BAR + GROUP + "dead at b 2 0"), whole() + ((1, 2),), (39, 160))
        # Push comes first: 1/2 + 3/8 + 2 margin at most 1.
        self.check(structure(BAR + GROUP + "dead at b -2 0"), ((-1, 2),), (1, 32))

    def test_no_margin_above_0(self):
        # 1/2 + 3/8 + 9/8 is just 2 by pull.
        self.assertIsNone(found_yield_paper(structure(BAR + GROUP.replace("0.4", "3") + "dead at b 2 0")))
        self.assertIsNone(found_yield_paper(structure(BAR + GROUP.replace("0.4", "4") + "dead at b 2 0")))
        self.assertIsNotNone(found_yield_paper(structure(BAR + GROUP.replace("0.4", "2.99") + "dead at b 2 0")))

    def test_no_greatest_margin(self):
        self.check(structure(""), (), (1, 1))
        self.check(structure("group g\ncase"), (), (1, 1))
        self.check(left_bare(structure(BAR), [0]), whole(0), (1, 1))

    def test_the_forces_nearest_to_nothing(self):
        # Both bars bear 2: forces from 1 to 1 leave 1 and the margin 1/2, and half of it lets them be 1/2 and 3/2.
        self.check(structure(TWICE + "dead at b 8 0"), ((1, 2), (3, 2)), (1, 4))
        # 1/4 each leaves the margin 7/8; half of it is 7/16, and 2 - 7/8 is enough for the second bar.
        self.check(structure(TWICE + "dead at b 2 0"), ((0, 1), (1, 2)), (7, 16))

    def test_a_missing_pair(self):
        self.assertIsNone(found_yield_paper(structure(LOOSE)))
        self.assertIsNone(found_yield_paper(structure(LOOSE + GROUP)))
        made = structure(BAR + "dead at b 1 0")
        self.assertIsNone(found_yield_paper(left_bare(made, [0])))
        made = structure(BAR + "group g\ncase at b 1 0")
        self.assertIsNone(found_yield_paper(left_bare(made, [0])))

    def test_sides_that_break_count(self):
        made = structure(BAR.replace("push 4", "push 4 breaks both") + GROUP + "dead at b 2 0")
        self.check(made, ((1, 2),), (39, 160))

    def test_behind_a_loss(self):
        made = left(structure(TWICE.replace("member n a b r", "section w stiff 64 64 pull 1/10 push 1/10\nmember n a b w")),
                    [1], (3, 1))
        # The blow is 2 times 4 times 1/40: the force 1/20, as its rise.
        self.check(made, whole(0, 0), pair((2 - Fraction(1, 20)) / 2 / 2))


class Turns(unittest.TestCase):
    def check(self, made, yields, movement):
        found = found_turns(made)
        self.assertEqual(found, (yields, movement, all_pairs(made)))
        self.assertEqual([type(part) for part in found], [list, list, list])
        self.assertTrue(turns(made, *found))
        gain, _ = gain_and_lever(made, *found)
        self.assertGreaterEqual(frac(gain), 1)

    def test_the_base_load_alone(self):
        # It bears 2 by pull: the base load 12 works with 12 u, and 4 u yield at 2.
        self.check(structure(BAR + "dead at b 12 0"), [(0, (), (1, 1))], [(0, (1, 4))])
        self.check(structure(BAR + "dead at b -12 0"), [(1, (), (1, 2))], [(0, (-1, 8))])
        self.assertIsNone(found_turns(structure(BAR + "dead at b 8 0")))
        self.assertIsNone(found_turns(structure(BAR)))

    def test_the_hardest_loads(self):
        # The least rises against pull: -5/8 by 1/4, and -1/4 by 1/10 (-5/32 and -1/16).
        made = structure(BAR + GROUP + "dead at b 8 0")
        lack = 2 - Fraction(5, 32) - Fraction(1, 16)
        movement = 1 / (8 - 4 * lack)
        self.check(made, [(0, (0, 1), pair(4 * movement))], [(0, pair(movement))])
        # Against push the loads of -1/4 and of nothing: the lack is 1 - 5/32 by the base load -4.
        made = structure(BAR + GROUP + "dead at b -4 0")
        movement = 1 / (4 - 4 * Fraction(27, 32))
        self.check(made, [(1, (1, 0), pair(4 * movement))], [(0, pair(-movement))])

    def test_the_first_one_of_equal_loads(self):
        text = BAR + "dead at b 12 0\ngroup g\ncase at b -1 0\ncase at b 1 0\ncase at b 1 0\ngroup h\ncase\ncase"
        found = found_turns(structure(text))
        self.assertEqual([choice for _, choice, _ in found[0]], [(1, 0)])

    def test_two_bars_in_turn(self):
        # The load pushes one bar and pulls the other one as the joint goes along: both yield once for each turn.
        made = structure("section s stiff 9 9 pull 3 push 3\njoint a 0 0 x y\njoint b 3 0\njoint c 3 -3 x y\n"
                         "member m a b s\nmember n c b s\ndead at b 4 -4")
        found = found_turns(made)
        self.assertEqual(plain(found), plain(searching.found_turns(made)))
        self.assertEqual([(side, choice) for side, choice, _ in found[0]], [(3, ())])

    def test_sides_that_break_do_not_yield(self):
        breaking = BAR.replace("push 4", "push 4 breaks pull")
        self.assertIsNone(found_turns(structure(breaking + "dead at b 12 0")))
        self.check(structure(breaking + "dead at b -12 0"), [(1, (), (1, 2))], [(0, (-1, 8))])

    def test_what_is_borne_at_most_counts(self):
        wide = BAR.replace("push 4", "push 4 factor 1/2 1")
        self.assertIsNone(found_turns(structure(wide + "dead at b 8 0")))
        self.check(structure(wide + "dead at b 12 0"), [(0, (), (1, 1))], [(0, (1, 4))])

    def test_a_missing_pair(self):
        self.assertIsNone(found_turns(structure(LOOSE + "dead at b 99 0")))
        self.assertIsNone(found_turns(structure(LOOSE + GROUP + "dead at b 99 0")))
        made = structure(BAR + "dead at b 12 0")
        self.assertIsNotNone(found_turns(made))
        self.assertIsNone(found_turns(left_bare(made, [0])))
        made = structure(TWICE + "joint c 9 9 y\nsection w stiff 1 1 pull 1 push 1\nmember o b c w\n"
                         "dead at b 99 0\ngroup g\ncase at c 1 0")
        self.assertIsNotNone(found_turns(made))
        self.assertIsNone(found_turns(left_bare(made, [2])))


class ByChance(unittest.TestCase):
    def test_as_the_document_determines_them(self):
        seen = {"papers": 0, "turns": 0, "none": 0}
        for frame in some_frames(80, 50):
            site = Site(frame)
            for lost in site.sets():
                for made in (site.behind(lost), site.bare(lost)):
                    before = plain(made)
                    found = found_yield_paper(made)
                    self.assertEqual(plain(found), plain(searching.found_yield_paper(made)))
                    if found is not None:
                        seen["papers"] += 1
                        self.assertTrue(yields_end(made, found))
                        self.assertTrue(Model(made).yields_end(found))
                    found = found_turns(made)
                    self.assertEqual(found, searching.found_turns(made))
                    if found is not None:
                        seen["turns"] += 1
                        self.assertTrue(turns(made, *found))
                    else:
                        seen["none"] += 1
                    self.assertEqual(plain(made), before)
        self.assertTrue(min(seen.values()) > 5, seen)

    def test_twice_the_margin_is_the_greatest_one(self):
        seen = 0
        for frame in some_frames(81, 40):
            made = Site(frame).structure
            found = found_yield_paper(made)
            if found is None or not made.sides:
                continue
            seen += 1
            model = Model(made)
            rises = YieldPaper(((), ()), found.pairs, (1, 1))
            alone = Structure(made.free, made.rows, made.factors, made.sides, made.base, (), made.scale, made.errors,
                              made.there)
            for more in (0, Fraction(1, 10 ** 9)):
                margin = 2 * frac(found.margin) + more
                limits = [frac(side.sure) - model.height(rises, side) - margin * model.scale[side.component]
                          for side in made.sides]
                self.assertEqual(searching.bearing_forces(alone, [], limits) is None, more > 0)
        self.assertGreater(seen, 10)
