import unittest

from plain import plain
from standfast.errors import InvalidFrame
from standfast.frames.model import Asked, Case, Frame, Group, Joint, Member, Section
from standfast.frames.reading import fault_of, read_frame

NO = ((0, 1), (0, 1))
SAME = ((1, 1), (1, 1))
NO_LOADS = Case((), ())


def frame(**parts):
    told = {"sections": (), "joints": (), "members": (), "gravity": NO, "dead": NO_LOADS, "groups": (), "lose": 0,
            "blow": (1, 1), "asked": (), **parts}
    return Frame(**told)


class Read(unittest.TestCase):
    def check(self, text, **parts):
        with self.subTest(text):
            self.assertIsNone(fault_of(text))
            self.assertEqual(plain(read_frame(text)), plain(frame(**parts)))

    def test_nothing(self):
        for text in ("", "\n", "\n\n\n", "   ", "# all of it", "  # a remark\n\n   \n#"):
            self.check(text)

    def test_sections(self):
        start = "section s stiff 1 2 pull 3 push 4.5"

        def section(factor=SAME, breaks="", weight=(0, 1)):
            return (Section("s", ((1, 1), (2, 1)), (3, 1), (9, 2), factor, breaks, weight),)

        half = ((1, 2), (3, 2))
        self.check(start, sections=section())
        self.check(start + " factor 0.5 3/2", sections=section(half))
        self.check(start + " weight 7", sections=section(weight=(7, 1)))
        self.check(start + " factor 0.5 3/2 weight 7", sections=section(half, weight=(7, 1)))
        for breaks in ("pull", "push", "both"):
            self.check(start + " breaks " + breaks, sections=section(breaks=breaks))
            self.check(start + " factor 1/2 1.5 breaks " + breaks, sections=section(half, breaks))
            self.check(f"{start} breaks {breaks} weight 7", sections=section(SAME, breaks, (7, 1)))
            self.check(f"{start} factor 1/2 1.5 breaks {breaks} weight 7", sections=section(half, breaks, (7, 1)))

    def test_joints(self):
        one_two = ((1, 1), (2, 1))
        for words, across in (("", None), (" x", NO), (" x 1 2", one_two)):
            for more, upwards in (("", None), (" y", NO), (" y -3 4/6", ((-3, 1), (2, 3)))):
                self.check("joint j 0 -1.5" + words + more,
                           joints=(Joint("j", ((0, 1), (-3, 2)), (across, upwards)),))

    def test_members(self):
        one_two = ((-1, 1), (2, 1))
        self.check("member m a b s", members=(Member("m", "a", "b", "s", NO, False),))
        self.check("member m a b s losable", members=(Member("m", "a", "b", "s", NO, True),))
        self.check("member m a b s error -1 2", members=(Member("m", "a", "b", "s", one_two, False),))
        self.check("member m a b s error -1 2 losable", members=(Member("m", "a", "b", "s", one_two, True),))

    def test_single_lines(self):
        self.check("gravity 0 -9.81", gravity=((0, 1), (-981, 100)))
        self.check("lose 2", lose=2)
        self.check("lose 0 blow 3/2", blow=(3, 2))
        self.check("lose 12 blow 2", lose=12, blow=(2, 1))
        self.check("ask q j 1 -1/2", asked=(Asked("q", "j", ((1, 1), (-1, 2))),))

    def test_loads(self):
        for words, forces, heats in (
            ("", (), ()),
            (" at a 1 2", (("a", (1, 1), (2, 1)),), ()),
            (" heat m 1/3", (), (("m", (1, 3)),)),
            (" heat m 1/3 at b 0 0 heat m 0 at a 1 2", (("b", (0, 1), (0, 1)), ("a", (1, 1), (2, 1))),
             (("m", (1, 3)), ("m", (0, 1)))),
            (" at at 1 2 heat heat 3", (("at", (1, 1), (2, 1)),), (("heat", (3, 1)),)),
        ):
            case = Case(forces, heats)
            self.check("dead" + words, dead=case)
            self.check(f"group g\ncase{words}\ncase{words}", groups=(Group("g", (case, case)),))

    def test_cases_belong_to_the_last_group(self):
        one, two = (Case((("a", (n, 1), (0, 1)),), ()) for n in (1, 2))
        self.check("group g\ncase at a 1 0\njoint a 0 0\ncase\ngroup h\ngroup g\ncase at a 2 0",
                   joints=(Joint("a", NO, (None, None)),),
                   groups=(Group("g", (one, NO_LOADS)), Group("h", ()), Group("g", (two,))))

    def test_any_order_of_lines(self):
        text = ("ask q b 1 0\nmember n b a t\njoint b 1 1\nlose 1\nsection t stiff 1 1 pull 1 push 1\n"
                "group z\njoint a 0 0 x y\ncase heat n 1\nmember m a b t\ngravity 0 -1\nask p a 0 1\njoint b 2 2\n"
                "dead at a 1 1\ngroup a\nsection s stiff 1 1 pull 1 push 1")
        read = read_frame(text)
        self.assertEqual([s.name for s in read.sections], ["t", "s"])
        self.assertEqual([j.name for j in read.joints], ["b", "a", "b"])
        self.assertEqual([m.name for m in read.members], ["n", "m"])
        self.assertEqual([g.name for g in read.groups], ["z", "a"])
        self.assertEqual([a.name for a in read.asked], ["q", "p"])
        self.assertEqual((read.lose, read.gravity, len(read.groups[0].cases)), (1, ((0, 1), (-1, 1)), 1))

    def test_names_and_bounds_are_not_looked_at(self):
        self.assertIsNone(fault_of("member m a a s error 2 1\nask q nobody 0 0\nsection s stiff 2 -1 pull -1 push 0\n"
                                   "section s stiff 0 0 pull 0 push 0\ndead at nobody 1 1\nlose 5 blow -1"))

    def test_blanks_and_remarks(self):
        self.check("   joint   j  0   1  ", joints=(Joint("j", ((0, 1), (1, 1)), (None, None)),))
        self.check("joint j 0 1# x 1 2", joints=(Joint("j", ((0, 1), (1, 1)), (None, None)),))
        self.check("\n\n joint j 0 1 x#\n\ndead#at nobody\n", joints=(Joint("j", ((0, 1), (1, 1)), (NO, None)),))
        self.check("#joint j 0 1\n ## gravity 1 1 # no")

    def test_names(self):
        for name in ("a", "z", "a1_b", "section", "stiff", "x", "a" * 20, "z" + "_9" * 9):
            self.assertEqual(read_frame("group " + name).groups[0].name, name)
        for name in ("A", "aB", "1", "_", "_a", "9a", "a" * 21, "a-b", "a.b", "-", "a!"):
            with self.subTest(name):
                self.assertEqual(fault_of("group " + name), (1, 7, "name"))

    def test_whole_numbers(self):
        for word in ("1.0", "-1", "-0", "01", "1/1", "x", "+1", "1."):
            with self.subTest(word):
                self.assertEqual(fault_of("lose " + word), (1, 6, "whole number"))
        self.assertEqual(read_frame("lose 1000000000000").lose, 10 ** 12)

    def test_the_kinds_of_values(self):
        read = read_frame("joint a 0 0 x\nmember m a b s\ngroup g\ncase at a 1 1\nlose 2")
        self.assertIs(type(read.lose), int)
        self.assertIs(read.members[0].losable, False)
        for many in (read.sections, read.joints, read.groups, read.groups[0].cases, read.dead.forces, read.dead.heats):
            self.assertIs(type(many), tuple)


class Refused(unittest.TestCase):
    def test_exactly_if_there_is_a_fault(self):
        for text, faulty in (
            ("", False), ("joint a 0 0", False), ("joint a 0", True), ("nothing", True), ("case", True),
            ("group g\ncase", False), ("gravity 1 1\ngravity 1 1", True), ("dead at a 1", True), ("lose 1 blow", True),
        ):
            with self.subTest(text):
                self.assertEqual(fault_of(text) is not None, faulty)
                if faulty:
                    with self.assertRaises(InvalidFrame):
                        read_frame(text)
                else:
                    read_frame(text)
