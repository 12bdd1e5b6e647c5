import random
import unittest

from plain import plain
from standfast.errors import InvalidTree, StandfastError
from standfast.frames.reading import read_frame
from standfast.lightest.trees import is_right, least_of, read_tree, write_tree

# A bar of length 4, which with r, s and t bears 1, 2 and 3, and weighs 4, 8 and 12; o weighs 4.
FRAME = read_frame("""
section r stiff 64 64 pull 4 push 4 weight 1
section s stiff 64 64 pull 8 push 8 weight 2
section t stiff 64 64 pull 12 push 12 weight 3
joint a 0 0 x y
joint b 4 0 y
member m a b r
member o a b r losable
dead at b 9 0
group g
case
case at b 2 0
lose 1
""")
LISTS = [(["m"], ["r", "s", "t"]), (["o"], ["r", "s"])]
BOX = [(0, 1, 2), (0, 1)]
# Behind the loss of o: 11 at b, and r bears 4 there, s bears 8.
FALL = ("fall", (1,), (1, 0), [(0, (1, 4))])
HEAVY, OPEN = ("heavy",), ("open",)


def nested(splits, first=True):
    """Splits one within another: a list of one member with as many sections and one more."""
    tree = OPEN
    for at in reversed(range(splits)):
        tree = ("split", 0, (at,), OPEN, tree) if first else ("split", 0, tuple(range(splits - at)), tree, OPEN)
    return tree


class Right(unittest.TestCase):
    def check(self, tree, right, limit=(8, 1), box=BOX, lists=LISTS):
        before = plain((FRAME, lists, box, tree))
        self.assertIs(is_right(FRAME, lists, list(box), limit, tree), right)
        self.assertEqual(plain((FRAME, lists, box, tree)), before)

    def test_open(self):
        self.check(OPEN, True)
        self.check(OPEN, True, (0, 1), [(2,), (0,)])

    def test_heavy(self):
        # The box weighs at least 4 and 4.
        self.check(HEAVY, True, (8, 1))
        self.check(HEAVY, False, (8000001, 1000000))
        self.check(HEAVY, True, (7, 1))
        self.check(HEAVY, True, (12, 1), [(1, 2), (0,)])
        self.check(HEAVY, False, (13, 1), [(1, 2), (0,)])

    def test_fall(self):
        self.check(FALL, False)
        self.check(FALL, True, box=[(0, 1), (0, 1)])
        self.check(FALL, True, box=[(0,), (1,)])
        self.check(FALL, False, box=[(2,), (1,)])
        for changed in (("fall", (0,), (1, 0), FALL[3]), ("fall", (1,), (1, 2), FALL[3]), ("fall", (1,), (0, 0), []),
                        ("fall", (1,), (1, 0), [(0, (-1, 4))]), ("fall", (), (1, 0), FALL[3])):
            self.check(changed, False, box=[(0, 1), (0, 1)])

    def test_split(self):
        self.check(("split", 0, (0, 1), FALL, HEAVY), True, (16, 1))
        self.check(("split", 0, (0, 1), FALL, HEAVY), False, (17, 1))
        self.check(("split", 0, (0, 1), HEAVY, FALL), False, (8, 1))
        self.check(("split", 0, (2,), HEAVY, FALL), True, (16, 1))
        self.check(("split", 0, (2,), OPEN, FALL), True, (99, 1))
        self.check(("split", 0, (1,), OPEN, FALL), False, (99, 1))
        self.check(("split", 1, (1,), HEAVY, OPEN), True, (12, 1))
        self.check(("split", 1, (0,), HEAVY, OPEN), False, (12, 1))

    def test_the_index_of_the_list(self):
        for at in (2, 3, -1, -2):
            self.check(("split", at, (0,), OPEN, OPEN), False)
        self.check(("split", 0, (0,), OPEN, OPEN), False, box=[], lists=[])

    def test_places(self):
        for places, right in (((0,), True), ((2,), True), ((0, 2), True), ((), False), ((0, 1, 2), False), ((1, 0), False),
                              ((0, 0), False), ((3,), False), ((0, 3), False), ((-1,), False), ((1, 1), False)):
            self.check(("split", 0, places, OPEN, OPEN), right)
        # Only what is in the box counts.
        self.check(("split", 0, (1,), OPEN, OPEN), False, box=[(0, 2), (0,)])
        self.check(("split", 0, (2,), OPEN, OPEN), True, box=[(0, 2), (0,)])
        self.check(("split", 0, (2,), OPEN, OPEN), False, box=[(2,), (0, 1)])

    def test_splits_within_one_another(self):
        self.check(("split", 0, (0,), OPEN, ("split", 0, (1,), OPEN, OPEN)), True)
        self.check(("split", 0, (0,), OPEN, ("split", 0, (0,), OPEN, OPEN)), False)
        self.check(("split", 0, (0,), OPEN, ("split", 0, (1, 2), OPEN, OPEN)), False)
        self.check(("split", 0, (0,), ("split", 1, (1,), OPEN, OPEN), ("split", 1, (0,), OPEN, OPEN)), True)
        self.check(("split", 0, (0,), ("split", 0, (0,), OPEN, OPEN), OPEN), False)
        self.check(("split", 0, (0, 1), ("split", 0, (1,), FALL, FALL), OPEN), True)

    def test_30_and_31_splits(self):
        for first in (True, False):
            for splits, right in ((29, True), (30, True), (31, False), (35, False)):
                lists = [(["m"], ["r", "s", "t"] * 12)]
                box = [tuple(range(splits + 1))]
                self.check(nested(splits, first), right, box=box, lists=lists)
        # Beside one another there may be more.
        both = ("split", 0, tuple(range(25)), nested(24), ("split", 0, (25,), OPEN, OPEN))
        self.check(both, True, box=[tuple(range(36))], lists=[(["m"], ["r", "s", "t"] * 12)])


class Leasts(unittest.TestCase):
    def check(self, tree, least, limit=(99, 1), box=BOX):
        self.assertEqual(least_of(FRAME, LISTS, list(box), limit, tree), least)

    def test_the_limit_and_open_trees(self):
        self.check(HEAVY, (7, 1), (7, 1))
        self.check(FALL, (99, 1))
        self.check(OPEN, (8, 1))
        self.check(OPEN, (7, 1), (7, 1))
        self.check(OPEN, (12, 1), box=[(1, 2), (0,)])

    def test_the_least_of_several(self):
        self.check(("split", 0, (0, 1), FALL, OPEN), (16, 1))
        self.check(("split", 0, (2,), OPEN, FALL), (16, 1))
        self.check(("split", 0, (0,), ("split", 1, (1,), OPEN, FALL), OPEN), (12, 1))
        self.check(("split", 0, (0,), ("split", 1, (0,), HEAVY, OPEN), ("split", 0, (2,), OPEN, HEAVY)), (12, 1))
        self.check(("split", 0, (0,), HEAVY, ("split", 0, (2,), OPEN, HEAVY)), (15, 1), (15, 1))
        self.check(("split", 0, (0,), HEAVY, ("split", 0, (2,), OPEN, HEAVY)), (16, 1))


class Texts(unittest.TestCase):
    def check(self, tree, line):
        text = "standfast lighter\n" + line + "\n"
        self.assertEqual(write_tree(tree), text)
        self.assertEqual(read_tree(text), tree)

    def test_each_kind(self):
        self.check(HEAVY, "0")
        self.check(OPEN, "2")
        self.check(FALL, "1 1 1 2 1 0 1 0 1/4")
        self.check(("fall", (), (), []), "1 0 0 0")
        self.check(("fall", (0, 2, 7), (3,), [(5, (-1, 9)), (0, (2, 1))]), "1 3 0 2 7 1 3 2 5 -1/9 0 2")
        self.check(("split", 0, (0, 1), FALL, OPEN), "3 0 2 0 1 1 1 1 2 1 0 1 0 1/4 2")
        self.check(("split", 1, (0,), ("split", 2, (5,), HEAVY, OPEN), HEAVY), "3 1 1 0 3 2 1 5 0 2 0")

    def test_kinds_of_values(self):
        _, at, places, first, _ = read_tree("standfast lighter\n3 1 1 0 1 1 4 0 1 0 1/2 2\n")
        self.assertEqual((at, places), (1, (0,)))
        self.assertEqual(first, ("fall", (4,), (), [(0, (1, 2))]))
        self.assertEqual([type(part) for part in first], [str, tuple, tuple, list])

    def test_places_in_any_order(self):
        for places in ((2, 0), (1, 1), ()):
            tree = ("split", 0, places, OPEN, OPEN)
            self.assertEqual(read_tree(write_tree(tree)), tree)
            self.assertFalse(is_right(FRAME, LISTS, BOX, (1, 1), tree))

    def test_30_and_31_splits(self):
        for first in (True, False):
            tree = nested(30, first)
            self.assertEqual(read_tree(write_tree(tree)), tree)
            self.assertRaises(InvalidTree, read_tree, write_tree(nested(31, first)))
        self.assertRaises(InvalidTree, read_tree, "standfast lighter\n" + "3 0 1 0 " * 5000 + "\n")
        self.assertRaises(InvalidTree, read_tree, "standfast lighter\n" + "3 0 1 0 " * 2000 + "2" + " 2" * 2000 + "\n")

    def test_no_trees(self):
        self.assertTrue(issubclass(InvalidTree, StandfastError))
        for line in ("", "4", "-1", "1/2", "5 0", "0 0", "2 ", " 2", "2 2", "1", "1 0", "1 0 0", "1 0 0 1", "1 0 0 1 0",
                     "1 1 0 0", "1 -1 0 0", "1 1 -2 0 0", "1 2 3 1 0 0", "1 2 1 1 0 0", "1 0 1 1/2 0", "1 0 0 1 -1 1",
                     "1 0 0 1 1/2 1", "1 0 0 1 0 2/4", "1 0 0 1 0 01", "3", "3 0", "3 0 1 0", "3 0 1 0 2", "3 -1 1 0 2 2",
                     "3 0 1 -1 2 2", "3 0 1 1/2 2 2", "3 0 1 0 2 2 2", "3 0 -1 2 2", "3 1/2 1 0 2 2", "two", "2.0", "+2",
                     "3 0 1 0  2 2", "1 0 0 999999999999 0 1"):
            self.assertRaises(InvalidTree, read_tree, "standfast lighter\n" + line + "\n")
        for text in ("", "\n", "standfast lighter", "standfast lighter\n", "standfast lighter\n2", "standfast lighter\n2\n\n",
                     "\nstandfast lighter\n2\n", "standfast heavier\n2\n", "standfast lighter \n2\n", "standfast\n2\n",
                     "standfast bounds\n0\n", "Standfast lighter\n2\n", "standfast lighter\n\n", "standfast lighter\n2\n2\n"):
            self.assertRaises(InvalidTree, read_tree, text)

    def test_many(self):
        chance = random.Random(98)

        def some_tree(depth):
            kind = chance.choice(("fall", "heavy", "open", "split", "split")) if depth else "open"
            if kind == "fall":
                lost = tuple(sorted(chance.sample(range(9), chance.randint(0, 3))))
                movement = [(chance.randint(0, 9), (chance.choice((-3, -1, 1, 2)), chance.choice((1, 5, 7)))) for _ in range(2)]
                return ("fall", lost, tuple(chance.randint(0, 4) for _ in range(chance.randint(0, 3))), movement)
            if kind == "split":
                places = tuple(chance.randint(0, 9) for _ in range(chance.randint(0, 3)))
                return ("split", chance.randint(0, 9), places, some_tree(depth - 1), some_tree(depth - 1))
            return (kind,)

        for _ in range(200):
            tree = some_tree(6)
            text = write_tree(tree)
            self.assertEqual(read_tree(text), tree)
            words = text.split("\n")[1].split(" ")
            cut = " ".join(words[:-1])
            self.assertRaises(InvalidTree, read_tree, "standfast lighter\n" + cut + "\n")
