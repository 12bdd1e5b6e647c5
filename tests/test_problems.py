import unittest

from plain import plain
from standfast.frames.problems import problems
from standfast.frames.reading import read_frame

CROSSED = "lower bound above the upper one"
SOUND = """
section s stiff 1 2 pull 1 push 1
joint a 0 0 x y
joint b 1 0 y
member m a b s
"""


def found(text):
    return problems(read_frame(text))


def beside_sound(text):
    return found(SOUND + text)


class Problems(unittest.TestCase):
    def test_none(self):
        self.assertEqual(found(""), [])
        self.assertEqual(found(SOUND), [])
        self.assertEqual(beside_sound("""
            gravity 0 -1
            dead at b 1 1 heat m -1/5
            group g
            case
            case at a 1 0
            lose 0 blow 7
            ask q b 1 0
        """), [])

    def test_returns_new_lists_and_changes_nothing(self):
        frame = read_frame(SOUND + "joint a 1 1 x 2 1")
        before = plain(frame)
        first = problems(frame)
        self.assertEqual(first, [(CROSSED, "a"), ("told twice", "a")])
        first.clear()
        self.assertEqual(len(problems(frame)), 2)
        self.assertEqual(plain(frame), before)


class Sections(unittest.TestCase):
    def of(self, words):
        return found("section s " + words)

    def test_crossed(self):
        self.assertEqual(self.of("stiff 2 1 pull 1 push 1"), [(CROSSED, "s")])
        self.assertEqual(self.of("stiff 2 2 pull 1 push 1"), [])
        self.assertEqual(self.of("stiff 2 1.999999999 pull 1 push 1"), [(CROSSED, "s")])
        self.assertEqual(self.of("stiff 1 2 pull 1 push 1 factor 1 1/2"), [(CROSSED, "s")])
        self.assertEqual(self.of("stiff 1 2 pull 1 push 1 factor 1/2 1/2"), [])
        self.assertEqual(self.of("stiff 2 1 pull 1 push 1 factor 1 1/2"), [(CROSSED, "s")])

    def test_not_above_0(self):
        self.assertEqual(self.of("stiff 0 1 pull 1 push 1"), [("not above 0", "s")])
        self.assertEqual(self.of("stiff -1 1 pull 1 push 1"), [("not above 0", "s")])
        self.assertEqual(self.of("stiff 1/1000000000 1 pull 1 push 1"), [])
        self.assertEqual(self.of("stiff 1 2 pull 1 push 1 factor 0 1"), [("not above 0", "s")])
        self.assertEqual(self.of("stiff 1 2 pull 1 push 1 factor -1 1"), [("not above 0", "s")])
        self.assertEqual(self.of("stiff 0 0 pull 0 push 0 factor 0 0"), [("not above 0", "s")])

    def test_pull_and_push(self):
        self.assertEqual(self.of("stiff 1 2 pull 0 push 0"), [("not above 0", "s")])
        self.assertEqual(self.of("stiff 1 2 pull 0 push 1"), [])
        self.assertEqual(self.of("stiff 1 2 pull 1 push 0"), [])
        self.assertEqual(self.of("stiff 1 2 pull -1 push 1"), [("below 0", "s")])
        self.assertEqual(self.of("stiff 1 2 pull 1 push -1"), [("below 0", "s")])
        self.assertEqual(self.of("stiff 1 2 pull -1 push 0"), [("not above 0", "s"), ("below 0", "s")])
        self.assertEqual(self.of("stiff 1 2 pull -1 push -1"), [("not above 0", "s"), ("below 0", "s")])

    def test_weight(self):
        self.assertEqual(self.of("stiff 1 2 pull 1 push 1 weight 0"), [])
        self.assertEqual(self.of("stiff 1 2 pull 1 push 1 weight -1/9"), [("below 0", "s")])
        self.assertEqual(self.of("stiff 1 2 pull -1 push 1 weight -1"), [("below 0", "s")])

    def test_all_at_once(self):
        self.assertEqual(self.of("stiff 0 -1 pull -1 push -2 factor 0 -1 weight -1"), [
            (CROSSED, "s"), ("not above 0", "s"), ("below 0", "s")])

    def test_told_twice(self):
        sound = "stiff 1 2 pull 1 push 1\n"
        self.assertEqual(found(f"section s {sound}section s {sound}"), [("told twice", "s")])
        self.assertEqual(found(f"section s {sound}section s {sound}section s {sound}"), [("told twice", "s")] * 2)
        self.assertEqual(found(f"section s {sound}section t {sound}section t {sound}section s {sound}"), [
            ("told twice", "s"), ("told twice", "t")])
        self.assertEqual(found(f"section s {sound}section s stiff 2 1 pull 1 push 1\nsection t stiff 0 1 pull 1 push 1"), [
            (CROSSED, "s"), ("not above 0", "t"), ("told twice", "s")])


class Joints(unittest.TestCase):
    def test_crossed(self):
        self.assertEqual(found("joint a 0 0 x 1 0"), [(CROSSED, "a")])
        self.assertEqual(found("joint a 0 0 y 0 -1/9"), [(CROSSED, "a")])
        self.assertEqual(found("joint a 0 0 x 1 0 y 1 0"), [(CROSSED, "a")])
        self.assertEqual(found("joint a 0 0 x 1 1 y -1 0"), [])
        self.assertEqual(found("joint a 0 0"), [])

    def test_told_twice(self):
        self.assertEqual(found("joint a 0 0 x 1 0\njoint a 0 0\njoint b 0 0 y 1 0\njoint a 9 9"), [
            (CROSSED, "a"), (CROSSED, "b"), ("told twice", "a"), ("told twice", "a")])


class Members(unittest.TestCase):
    def test_ends(self):
        self.assertEqual(beside_sound("member n c b s"), [("no such joint", "c")])
        self.assertEqual(beside_sound("member n b c s"), [("no such joint", "c")])
        self.assertEqual(beside_sound("member n d c s"), [("no such joint", "d"), ("no such joint", "c")])
        self.assertEqual(beside_sound("member n c c s"), [("no such joint", "c"), ("no such joint", "c")])

    def test_section(self):
        self.assertEqual(beside_sound("member n a b t"), [("no such section", "t")])
        self.assertEqual(beside_sound("member n c d t error 1 0"), [
            ("no such joint", "c"), ("no such joint", "d"), ("no such section", "t"), (CROSSED, "n")])

    def test_ends_too_near(self):
        self.assertEqual(beside_sound("member n a a s"), [("ends too near", "n")])
        self.assertEqual(beside_sound("joint c 0 0\nmember n a c s"), [("ends too near", "n")])
        self.assertEqual(beside_sound("joint c 1/1000001 0\nmember n a c s"), [("ends too near", "n")])
        self.assertEqual(beside_sound("joint c 1/1000000 0\nmember n a c s"), [])
        self.assertEqual(beside_sound("joint c 0 -1/1000000\nmember n c a s"), [])
        self.assertEqual(beside_sound("joint c 0.0000007 0.0000007\nmember n a c s"), [("ends too near", "n")])
        self.assertEqual(beside_sound("joint c 0.0000007 0.0000008\nmember n a c s"), [])

    def test_ends_too_near_only_where_all_is_known(self):
        self.assertEqual(beside_sound("joint c 0 0\nmember n a c t"), [("no such section", "t")])
        self.assertEqual(beside_sound("member n a a s error 1/2 1/3"), [("ends too near", "n"), (CROSSED, "n")])

    def test_error(self):
        self.assertEqual(beside_sound("member n a b s error 0 -1/9"), [(CROSSED, "n")])
        self.assertEqual(beside_sound("member n a b s error -1/9 -1/9"), [])

    def test_told_twice(self):
        self.assertEqual(beside_sound("member m b a s\nmember n a b s error 1 0\nmember m a a s"), [
            (CROSSED, "n"), ("ends too near", "m"), ("told twice", "m"), ("told twice", "m")])

    def test_the_first_joint_and_section_of_a_name_are_meant(self):
        self.assertEqual(beside_sound("joint b 0 0"), [("told twice", "b")])
        self.assertEqual(beside_sound("joint c 0 0\njoint c 1 1\nmember n a c s"), [
            ("told twice", "c"), ("ends too near", "n")])


class Loads(unittest.TestCase):
    def test_dead(self):
        self.assertEqual(beside_sound("dead heat x 1 at c 0 0 heat m 1 at d 1 0 heat y 0 at a 1 1 at c 2 2"), [
            ("no such joint", "c"), ("no such joint", "d"), ("no such joint", "c"),
            ("no such member", "x"), ("no such member", "y")])

    def test_groups(self):
        self.assertEqual(beside_sound("group g\ngroup h\ncase\ngroup i\n"), [("no cases", "g"), ("no cases", "i")])
        self.assertEqual(beside_sound("group g\ncase heat b 1 at m 0 1\ncase at c 0 0\ngroup h\ncase heat a 1"), [
            ("no such joint", "m"), ("no such member", "b"), ("no such joint", "c"), ("no such member", "a")])

    def test_told_twice(self):
        self.assertEqual(beside_sound("group g\ncase at c 0 0\ngroup g\ngroup h\ncase heat n 1"), [
            ("no such joint", "c"), ("no cases", "g"), ("no such member", "n"), ("told twice", "g")])


class Losses(unittest.TestCase):
    def test_how_many(self):
        losable = "member n a b s losable\nmember o a b s losable\n"
        fewer = [("fewer members that may be lost", "")]
        self.assertEqual(beside_sound("lose 1"), fewer)
        self.assertEqual(beside_sound(losable + "lose 1"), [])
        self.assertEqual(beside_sound(losable + "lose 2"), [])
        self.assertEqual(beside_sound(losable + "lose 3"), fewer)
        self.assertEqual(beside_sound("member n a b s losable\nmember n b a s losable\nlose 2"), [("told twice", "n")])

    def test_blow(self):
        self.assertEqual(beside_sound("lose 0 blow 1"), [])
        self.assertEqual(beside_sound("lose 0 blow 0.999999999"), [("blow below 1", "")])
        self.assertEqual(beside_sound("lose 0 blow -2"), [("blow below 1", "")])
        self.assertEqual(beside_sound("lose 1 blow 0"), [("fewer members that may be lost", ""), ("blow below 1", "")])


class Asked(unittest.TestCase):
    def test_joint(self):
        self.assertEqual(beside_sound("ask q c 1 0"), [("no such joint", "c")])

    def test_held(self):
        self.assertEqual(beside_sound("ask q b 1 0"), [])
        self.assertEqual(beside_sound("ask q b 0 1"), [("held there", "b")])
        self.assertEqual(beside_sound("ask q b 5 -1/9"), [("held there", "b")])
        self.assertEqual(beside_sound("ask q a 1 1"), [("held there", "a")])
        self.assertEqual(beside_sound("ask q a 0 0"), [])
        self.assertEqual(beside_sound("joint c 5 5\nask q c 1 1"), [])
        self.assertEqual(beside_sound("joint c 5 5 x\nask q c 0 1\nask r c 1 0"), [("held there", "c")])

    def test_the_first_joint_of_a_name_is_meant(self):
        self.assertEqual(beside_sound("joint b 9 9\nask q b 0 1"), [("told twice", "b"), ("held there", "b")])
        self.assertEqual(beside_sound("joint c 5 5\njoint c 5 5 x y\nask q c 1 1"), [("told twice", "c")])

    def test_told_twice(self):
        self.assertEqual(beside_sound("ask q b 0 1\nask r c 0 0\nask q b 1 0"), [
            ("held there", "b"), ("no such joint", "c"), ("told twice", "q")])


class Order(unittest.TestCase):
    def test_all_kinds(self):
        self.assertEqual(found("""
            ask q x 1 0
            ask q z 1 0
            lose 1 blow 0
            group g
            group g
            case at z 0 0
            dead heat k 1
            member m a b s
            member m a z t error 1 0
            joint a 0 0 x 1 0
            joint a 0 0
            joint b 0 0
            section s stiff 2 1 pull 1 push -1
            section s stiff 1 1 pull 1 push 1
        """), [
            (CROSSED, "s"), ("below 0", "s"), ("told twice", "s"),
            (CROSSED, "a"), ("told twice", "a"),
            ("ends too near", "m"), ("no such joint", "z"), ("no such section", "t"), (CROSSED, "m"), ("told twice", "m"),
            ("no such member", "k"), ("no cases", "g"), ("no such joint", "z"), ("told twice", "g"),
            ("fewer members that may be lost", ""), ("blow below 1", ""),
            ("no such joint", "x"), ("no such joint", "z"), ("told twice", "q"),
        ])
