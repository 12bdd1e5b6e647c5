import random
import unittest
from fractions import Fraction

from making import some_frame, some_pair, some_paper, structure, whole
from plain import plain
from reference import Model, frac, pair
from standfast.elastic.pairs import pair_of
from standfast.papers.losses import left, left_bare
from standfast.papers.yielding import YieldPaper, filled, is_kept_away, pair_at, start, yield_of, yields_end
from standfast.structure.build import build

TINY = Fraction(1, 10 ** 12)
# A bar along x: its row is 4 at place 0, its factor lies from 1 to 2, its scale is 2. It bears 2 by pull and 1 by push.
TEXT = """
section s stiff 32 64 pull 8 push 4
joint a 0 0 x y
joint b 4 0 y
member m a b s error -1/32 1/16
dead at b 2 0
group g
case at b 1 0
case at b -1 0
group h
case
case at b 0.4 0
"""
BAR = structure(TEXT)
# Pairs of the loads if the factor were 3/2: a force t with the own strain 3/2 t. Then apart is t t / 4, and the rise is
# (5/2 t + t/2) / 2 = 3/2 t with the sign of t, and -5/8 t with the other one.
PAIRS = (((((1, 4),), ((3, 32),)), (((-1, 4),), ((-3, 32),))),
         ((whole(0), whole(0)), (((1, 10),), ((3, 80),))))
BASE = (((1, 2),), ((3, 16),))


def paper(base=BASE, pairs=PAIRS, margin=(1, 100)):
    return YieldPaper(base, pairs, margin)


def as_lists(thing):
    return [as_lists(item) for item in thing] if isinstance(thing, tuple) else thing


class Made(unittest.TestCase):
    def test_attributes(self):
        made = YieldPaper(BASE, PAIRS, (1, 100))
        self.assertEqual((made.base, made.pairs, made.margin), (BASE, PAIRS, (1, 100)))

    def test_lists_are_copied(self):
        base, pairs = as_lists(BASE), as_lists(PAIRS)
        made = YieldPaper(base=base, pairs=pairs, margin=(1, 100))
        self.assertEqual(plain(made), plain(paper()))
        base[0].clear()
        pairs[0][0][0].append((1, 1))
        pairs.pop()
        self.assertEqual(plain(made), plain(paper()))


class Places(unittest.TestCase):
    def test_pair_at(self):
        self.assertEqual(pair_at(PAIRS, 0, 1), PAIRS[0][1])
        self.assertEqual(pair_at(PAIRS, 1, 0), PAIRS[1][0])
        self.assertEqual(pair_at([list(group) for group in PAIRS], 1, 1), PAIRS[1][1])
        for group, index in ((0, 2), (2, 0), (5, 5)):
            self.assertEqual(pair_at(PAIRS, group, index), ((), ()))
        self.assertEqual(pair_at((), 0, 0), ((), ()))
        self.assertEqual(pair_at(((),), 0, 0), ((), ()))

    def test_filled(self):
        made = structure(TEXT + "joint c 9 9\nmember n b c s\nmember o a c s\n")
        full = (whole(1, 2, 3), whole(4, 5, 6))
        self.assertEqual(filled(made, full), full)
        self.assertEqual(filled(made, ((), ())), (whole(0, 0, 0), whole(0, 0, 0)))
        self.assertEqual(filled(made, (whole(1), whole(4, 5))), (whole(1, 0, 0), whole(4, 5, 0)))
        self.assertEqual(filled(made, (whole(1, 2, 3, 7), whole(4, 5, 6, 7, 8))), full)
        self.assertEqual(filled(left_bare(made, [1]), full), (whole(1, 0, 3), whole(4, 5, 6)))


class Holds(unittest.TestCase):
    # The sides come to 1/2 + 3/8 + 3/20 = 41/40, and to -1/2 + 3/8 + 0.

    def test_holds(self):
        self.assertIs(yields_end(BAR, paper()), True)

    def test_margin(self):
        self.assertIs(yields_end(BAR, paper(margin=(0, 1))), False)
        self.assertIs(yields_end(BAR, paper(margin=(-1, 100))), False)
        self.assertIs(yields_end(BAR, paper(margin=(1, 10 ** 30))), True)

    def test_just_at_the_edge_and_beyond_it(self):
        # 41/40 + 2 margin is at most 2.
        self.assertIs(yields_end(BAR, paper(margin=(39, 80))), True)
        self.assertIs(yields_end(BAR, paper(margin=pair(Fraction(39, 80) + TINY))), False)

    def test_the_side_with_the_sign_below_0(self):
        # With the loads turned round: -1/2 - 41/40 for pull, and 41/40 + 2 margin at most 1 for push.
        made = structure(TEXT.replace("b 2 0", "b -2 0").replace("b 0.4 0", "b -0.4 0"))
        turned = tuple(tuple(tuple(tuple((-n, d) for n, d in part) for part in item) for item in group) for group in PAIRS)
        turned = (PAIRS[0], turned[1])
        base = tuple(tuple((-n, d) for n, d in part) for part in BASE)
        self.assertIs(yields_end(made, paper(base, turned)), False)
        wide = structure(TEXT.replace("b 2 0", "b -2 0").replace("b 0.4 0", "b -0.4 0").replace("push 4", "push 6"))
        # Push 6 bears 3/2: 41/40 + 2 margin at most 3/2.
        self.assertIs(yields_end(wide, paper(base, turned, (19, 80))), True)
        self.assertIs(yields_end(wide, paper(base, turned, pair(Fraction(19, 80) + TINY))), False)

    def test_sides_that_break_count(self):
        made = structure(TEXT.replace("push 4", "push 4 breaks both"))
        self.assertIs(yields_end(made, paper(margin=(39, 80))), True)
        self.assertIs(yields_end(made, paper(margin=(40, 80))), False)

    def test_what_is_borne_for_sure_counts(self):
        made = structure(TEXT.replace("push 4", "push 4 factor 1/2 9"))
        # It bears 1 for sure, and 41/40 is more; the scale is 18.
        self.assertIs(yields_end(made, paper(margin=(1, 10 ** 30))), False)
        made = structure(TEXT.replace("push 4", "push 4 factor 3/4 9"))
        self.assertIs(yields_end(made, paper(margin=pair(Fraction(19, 40) / 18))), True)
        self.assertIs(yields_end(made, paper(margin=pair(Fraction(19, 40) / 18 + TINY))), False)

    def test_out_of_balance_by_a_little(self):
        for base in ((((1, 2),), ()), (((1, 2),), whole(0)), (((500001, 1000000),), ((3, 16),)), ((), ((3, 16),))):
            self.assertIs(yields_end(BAR, paper(base)), base[0] == ((1, 2),))
        for group, index in ((0, 0), (0, 1), (1, 0), (1, 1)):
            (force,), movements = PAIRS[group][index]
            other = [list(loads) for loads in PAIRS]
            other[group][index] = ((pair(frac(force) + TINY),), movements)
            self.assertIs(yields_end(BAR, paper(pairs=other)), False)

    def test_too_short_and_too_long(self):
        more = PAIRS[0] + ((whole(7), whole(7)),)
        self.assertIs(yields_end(BAR, paper(pairs=(more, PAIRS[1], more))), True)
        self.assertIs(yields_end(BAR, paper((BASE[0] + whole(9), BASE[1] + whole(9)))), True)
        # The case without loads may lack its pair, any movements may be missing, but no other forces.
        self.assertIs(yields_end(BAR, paper(pairs=(PAIRS[0], (((), ()), PAIRS[1][1])))), True)
        self.assertIs(yields_end(BAR, paper(pairs=PAIRS[:1])), False)
        self.assertIs(yields_end(BAR, paper(pairs=(PAIRS[0][:1], PAIRS[1]))), False)
        self.assertIs(yields_end(BAR, paper(pairs=(PAIRS[0], PAIRS[1][:1]))), False)
        quiet = structure(TEXT.replace("case at b 0.4 0", "case"))
        self.assertIs(yields_end(quiet, paper(pairs=PAIRS[:1], margin=(9, 16))), True)
        self.assertIs(yields_end(quiet, paper(pairs=PAIRS[:1], margin=pair(Fraction(9, 16) + TINY))), False)

    def test_movements_may_be_any(self):
        # Without movements a force t has apart 2 t t: rises of (t + root) / 2.
        bare = [[(forces, ()) for forces, _ in group] for group in PAIRS]
        self.assertIs(yields_end(BAR, paper(pairs=bare, margin=(1, 3))), True)
        rises = Fraction(250000 + 353554, 2000000) + Fraction(100000 + 141422, 2000000)
        edge = (2 - Fraction(1, 2) - rises) / 2
        self.assertIs(yields_end(BAR, paper(pairs=bare, margin=pair(edge))), True)
        self.assertIs(yields_end(BAR, paper(pairs=bare, margin=pair(edge + TINY))), False)

    def test_behind_a_loss(self):
        both = structure(TEXT + "section t stiff 64 64 pull 1 push 1\nmember n a b t\n")
        # The scale of n is 1/4, so its blow pulls and pushes with the strike: a force of 1/4 and a rise of 3/8.
        blow = ((((1, 4),), ((3, 32),)), (((-1, 4),), ((-3, 32),)))
        made = left(both, [1], (2, 1))
        self.assertIs(yields_end(made, paper(pairs=PAIRS + (blow,), margin=(3, 10))), True)
        self.assertIs(yields_end(made, paper(pairs=PAIRS + (blow,), margin=pair(Fraction(3, 10) + TINY))), False)
        self.assertIs(yields_end(made, paper(pairs=PAIRS)), False)
        # Forces of what is not there do not matter.
        self.assertIs(yields_end(made, paper((((1, 2), (99, 1)), ()), PAIRS + (blow,), (3, 10))), True)
        self.assertIs(yields_end(left(both, [1], (5, 2)), paper(pairs=PAIRS + (blow,))), False)

    def test_no_components(self):
        made = structure("joint a 0 0\ngroup g\ncase at a 0 0")
        self.assertIs(yields_end(made, YieldPaper(((), ()), (), (1, 1))), True)
        self.assertIs(yields_end(structure("joint a 0 0\ndead at a 1 0"), YieldPaper(((), ()), (), (1, 1))), False)


class Yield(unittest.TestCase):
    def test_start(self):
        # Force 1/2, own strain 3/4, errors -1/2 and 1: own strains 5/4 and -1/4.
        # 5/4: 1/4 - 5/4 + 25/16 at the factor 1, 1/2 - 5/4 + 25/32 at 2. -1/4: 1/4 + 1/4 + 1/16, and 1/2 + 1/4 + 1/32.
        self.assertEqual(start(BAR, paper()), (25, 32))
        # Errors 0 and 1: 3/4 gives 1/4 - 3/4 + 9/16 at most.
        made = structure(TEXT.replace("error -1/32 1/16", "error -1/32 0"))
        self.assertEqual(start(made, paper()), (9, 16))
        made = structure(TEXT.replace("error -1/32 1/16", ""))
        self.assertEqual(start(made, paper()), (1, 16))

    def test_start_with_strains_from_outside(self):
        made = structure(TEXT.replace("error -1/32 1/16", "").replace("dead", "dead heat m 1/32"))
        # The own strain is 1/4: 1/4 - 1/4 + 1/16 at 1, 1/2 - 1/4 + 1/32 at 2.
        self.assertEqual(start(made, paper()), (9, 32))

    def test_start_counts_what_is_there(self):
        made = structure(TEXT.replace("error -1/32 1/16", "") + "member n a b s\n")
        both = paper((((1, 2), (1, 2)), ((3, 16),)))
        self.assertEqual(start(made, both), (1, 8))
        self.assertEqual(start(left_bare(made, [0]), both), (1, 16))
        self.assertEqual(start(left_bare(made, [0, 1]), both), (0, 1))

    def test_start_of_lists_that_are_too_short(self):
        # No force and no movement: the own strains are the errors with the opposite sign.
        self.assertEqual(start(BAR, paper(((), ()))), (1, 1))
        self.assertEqual(start(BAR, paper((BASE[0] + whole(3), BASE[1] + whole(3)))), (25, 32))

    def test_yield(self):
        self.assertEqual(yield_of(BAR, paper()), (625, 16))
        self.assertEqual(yield_of(BAR, paper(margin=(5, 1))), (5, 64))
        self.assertEqual(yield_of(structure("joint a 0 0"), paper()), (0, 1))


class KeptAway(unittest.TestCase):
    def test_just_at_the_edge_and_beyond_it(self):
        pull, push = BAR.sides
        # 41/40 plus the root of r is at most 2; the reach is 1.
        self.assertIs(is_kept_away(BAR, paper(), pull, (0, 1)), True)
        self.assertIs(is_kept_away(BAR, paper(), pull, pair(Fraction(39, 40) ** 2)), True)
        self.assertIs(is_kept_away(BAR, paper(), pull, pair(Fraction(39, 40) ** 2 + TINY)), False)
        # -1/2 + 3/8 plus the root of r is at most 1.
        self.assertIs(is_kept_away(BAR, paper(), push, pair(Fraction(9, 8) ** 2)), True)
        self.assertIs(is_kept_away(BAR, paper(), push, pair(Fraction(9, 8) ** 2 + TINY)), False)

    def test_the_reach(self):
        stiff = structure(TEXT.replace("stiff 32 64", "stiff 64 128"))
        pull, _ = stiff.sides
        # The factor lies from 1/2 to 1, the reach is 2. Without movements apart of a force t is t t.
        bare = paper(((), ()), [[(forces, ()) for forces, _ in group] for group in PAIRS])
        rises = (Fraction(1, 4) + Fraction(353554, 10 ** 6) + Fraction(1, 10) + Fraction(141422, 10 ** 6)) / 2
        edge = (2 - rises) ** 2 / 2
        self.assertIs(is_kept_away(stiff, bare, pull, pair(edge)), True)
        self.assertIs(is_kept_away(stiff, bare, pull, pair(edge + TINY)), False)

    def test_nothing_to_spare(self):
        pull, _ = BAR.sides
        self.assertIs(is_kept_away(BAR, paper(((pair(Fraction(59, 40)),), ())), pull, (0, 1)), True)
        self.assertIs(is_kept_away(BAR, paper(((pair(Fraction(59, 40)),), ())), pull, (1, 10 ** 30)), False)
        self.assertIs(is_kept_away(BAR, paper(((pair(Fraction(59, 40) + TINY),), ())), pull, (0, 1)), False)


class ByChance(unittest.TestCase):
    def test_as_the_document_determines_them(self):
        chance = random.Random(55)
        for _ in range(120):
            made = build(some_frame(chance))
            made = left(made, [k for k in range(len(made.rows)) if chance.random() < 0.2], chance.choice(((1, 1), (4, 1))))
            given = some_paper(chance, made)
            before = plain((made, given))
            model = Model(made)
            alone = some_pair(chance, made)
            self.assertEqual(filled(made, alone), tuple(tuple(pair(x) for x in part) for part in model.full(alone)))
            self.assertEqual(start(made, given), pair(model.start(given)))
            self.assertEqual(yield_of(made, given), pair(model.start(given) / (2 * frac(given.margin))))
            self.assertEqual(yields_end(made, given), model.yields_end(given))
            for side in made.sides:
                room = frac(side.sure) - model.height(given, side)
                for amount in (Fraction(0), Fraction(1, 9), room * room * model.factors[side.component][0]):
                    self.assertEqual(is_kept_away(made, given, side, pair(amount)),
                                     model.kept_away(given, side, amount))
            self.assertEqual(plain((made, given)), before)

    def test_papers_of_elastic_pairs(self):
        chance = random.Random(56)
        held = {True: 0, False: 0}
        for _ in range(250):
            made = build(some_frame(chance))
            if any(side.sure == (0, 1) for side in made.sides):
                continue
            base = pair_of(made, made.base)
            pairs = [[pair_of(made, load) for load in group] for group in made.groups]
            if base is None or any(item is None for group in pairs for item in group):
                continue
            model = Model(made)
            trial = YieldPaper(base, pairs, (1, 1))
            room = min([(frac(side.sure) - model.height(trial, side)) / model.scale[side.component]
                        for side in made.sides])
            for margin in (room, room + TINY, room / 2, Fraction(1, 1000)):
                found = yields_end(made, YieldPaper(base, pairs, pair(margin)))
                self.assertEqual(found, 0 < margin <= room)
                held[found] += 1
        self.assertTrue(min(held.values()) > 20, held)
