import unittest

from plain import plain
from standfast.frames.model import Asked, Case, Frame, Group, Joint, Member, Section
from standfast.frames.reading import read_frame
from standfast.frames.writing import write_frame

NO = ((0, 1), (0, 1))
SAME = ((1, 1), (1, 1))


class Written(unittest.TestCase):
    def check(self, text, written):
        with self.subTest(text):
            frame = read_frame(text)
            self.assertEqual(write_frame(frame), written)
            again = read_frame(written)
            self.assertEqual(write_frame(again), written)
            self.assertEqual(plain(again), plain(frame))

    def test_nothing(self):
        for text in ("", "\n # nothing\n", "gravity 0 0", "dead", "lose 0", "lose 0 blow 1", "gravity 0 -0\ndead\nlose 0"):
            self.check(text, "")

    def test_sections(self):
        start = "section s stiff 1 2 pull 3 push 4"
        for end in ("", " factor 0.5 2", " breaks push", " breaks pull", " breaks both", " weight 1/3",
                    " factor 0.5 2 weight 1", " factor 1 2 breaks both", " breaks both weight 5",
                    " factor 0.5 1 breaks both weight 1"):
            self.check(start + end, start + end + "\n")
        self.check(start + " factor 1 1.0 weight 0.0", start + "\n")
        self.check(start + " factor 1 1 breaks pull weight 0/7", start + " breaks pull\n")

    def test_joints(self):
        for end in ("", " x", " y", " x y", " x 1 2", " x 1 2 y", " x y -1 0", " y 0 2", " x 1 2 y 3 4"):
            self.check("joint j 0 -1" + end, f"joint j 0 -1{end}\n")
        self.check("joint j 0 -1 x 0 0 y 0.0 -0", "joint j 0 -1 x y\n")

    def test_members(self):
        for end in ("", " losable", " error 0 1", " error -1 0", " error -1 1 losable"):
            self.check("member m a b s" + end, f"member m a b s{end}\n")
        self.check("member m a b s error 0 0.0 losable", "member m a b s losable\n")

    def test_single_lines(self):
        for line in ("gravity 0 -9.81", "gravity 1 0", "lose 1", "lose 0 blow 2", "lose 12 blow 1.5", "lose 1 blow 0",
                     "ask q j 0 0", "ask q j 1 -1/3"):
            self.check("  " + line.replace(" ", "  ") + " # remark", line + "\n")
        self.check("lose 3 blow 1", "lose 3\n")

    def test_loads(self):
        self.check("dead heat m 1 at a 1 2 heat n 2 at a 3 4", "dead at a 1 2 at a 3 4 heat m 1 heat n 2\n")
        self.check("dead heat m 0", "dead heat m 0\n")
        self.check("group g\ncase\ncase heat m 1 at a 0 0\ngroup h", "group g\ncase\ncase at a 0 0 heat m 1\ngroup h\n")

    def test_the_order_of_kinds(self):
        self.check(
            "ask q a 1 0\nlose 1 blow 2\ngroup g\ngroup h\ncase at a 1 0\ndead at a 0 1\ngravity 0 -1\n"
            "member n a b s\nmember m a b s\njoint b 1 1\nsection s stiff 1 1 pull 1 push 1\njoint a 0 0 x y\n"
            "ask p b 0 1\ncase\nsection r stiff 1 1 pull 1 push 1",
            "section s stiff 1 1 pull 1 push 1\nsection r stiff 1 1 pull 1 push 1\njoint b 1 1\njoint a 0 0 x y\n"
            "member n a b s\nmember m a b s\ngravity 0 -1\ndead at a 0 1\ngroup g\ngroup h\ncase at a 1 0\ncase\n"
            "lose 1 blow 2\nask q a 1 0\nask p b 0 1\n",
        )

    def test_numbers(self):
        for word, written in (
            ("0", "0"), ("-0", "0"), ("-0.0", "0"), ("1.50", "1.5"), ("2/4", "0.5"), ("-3/4", "-0.75"), ("1/3", "1/3"),
            ("-10/6", "-5/3"), ("0.000000001", "0.000000001"), ("1/1024", "1/1024"), ("1/512", "0.001953125"),
            ("7/1", "7"), ("1/1000000000", "0.000000001"), ("100.000", "100"), ("12345678901234567890.5", None),
        ):
            self.check(f"gravity {word} 1", f"gravity {written or word} 1\n")
            self.check(f"group g\ncase heat m {word}", f"group g\ncase heat m {written or word}\n")

    def test_frames_that_were_not_read(self):
        section = Section("s", [(1, 3), (1, 2)], (3, 1), (4, 1), SAME, "pull", (0, 1))
        joint = Joint("j", [(0, 1), (1, 1)], [None, [(0, 1), (1, 8)]])
        member = Member("m", "j", "k", "s", NO, True)
        group = Group("g", [Case([("j", (1, 1), (0, 1))], [("m", (-1, 7))]), Case([], [])])
        frame = Frame([section], [joint], [member], NO, Case([], []), [group], 1, (1, 1), [Asked("q", "j", NO)])
        before = plain(frame)
        self.assertEqual(
            write_frame(frame),
            "section s stiff 1/3 0.5 pull 3 push 4 breaks pull\njoint j 0 1 y 0 0.125\nmember m j k s losable\n"
            "group g\ncase at j 1 0 heat m -1/7\ncase\nlose 1\nask q j 0 0\n",
        )
        self.assertEqual(plain(frame), before)
