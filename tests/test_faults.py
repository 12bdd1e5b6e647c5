import unittest

from standfast.errors import InvalidEdit, InvalidFrame
from standfast.frames.edits import edit_fault, edit_frame
from standfast.frames.reading import fault_of, read_frame

FIRST = "section, joint, member, gravity, dead, group, case, lose or ask"
FIRST_OF_EDIT = "section, joint, member, gravity, dead, group, case, lose, ask or without"
END = "end of line"
LOADS = "at or heat"
RUINED = "?!"

# The words of lines behind the first one, each with what is expected in its place.
LINES = (
    ("section s=name stiff=stiff 1=number 2=number pull=pull 3=number push=push 4=number factor=END 1=number 2=number "
     "breaks=END push=KIND weight=END 5=number", END),
    ("section s=name stiff=stiff 1=number 2=number pull=pull 3=number push=push 4=number weight=END 5=number", END),
    ("section s=name stiff=stiff 1=number 2=number pull=pull 3=number push=push 4=number breaks=END both=KIND", END),
    ("joint j=name 1=number 2=number x=END 1=END 2=number y=END 3=END 4=number", END),
    ("joint j=name 1=number 2=number x=END y=END 3=END 4=number", END),
    ("joint j=name 1=number 2=number y=END", END),
    ("joint j=name 1=number 2=number x=END", END),
    ("member m=name a=name b=name s=name error=END 1=number 2=number losable=END", END),
    ("member m=name a=name b=name s=name losable=END", END),
    ("gravity 1=number -2.5=number", END),
    ("dead at=LOADS a=name 1=number 2=number heat=LOADS m=name 1/3=number at=LOADS b=name 0=number 0=number", LOADS),
    ("case heat=LOADS m=name 1/3=number heat=LOADS n=name 2=number at=LOADS b=name 0=number 0=number", LOADS),
    ("dead", LOADS),
    ("case", LOADS),
    ("group g=name", END),
    ("lose 2=whole_number blow=END 1.5=number", END),
    ("lose 2=whole_number", END),
    ("ask q=name j=name 1=number 0=number", END),
)
SHORT = {"END": END, "LOADS": LOADS, "KIND": "push, pull or both", "whole_number": "whole number"}


def parts(line):
    """The words of a line and what is expected behind the first word."""
    first, *others = line.split()
    words = [first] + [other.partition("=")[0] for other in others]
    expected = [SHORT.get(other.partition("=")[2], other.partition("=")[2]) for other in others]
    return words, expected


class EachLine(unittest.TestCase):
    """Each kind of line, in a frame's text and in an edit, behind another line that is right."""

    def check(self, text, place):
        text = "group before\n" + text
        place = place and (2, *place)
        with self.subTest(text):
            empty = read_frame("")
            self.assertEqual(fault_of(text), place)
            self.assertEqual(edit_fault(empty, text), place)
            if place is None:
                read_frame(text)
                edit_frame(empty, text)
            else:
                self.assertRaises(InvalidFrame, read_frame, text)
                self.assertRaises(InvalidEdit, edit_frame, empty, text)

    def test_whole_lines(self):
        for line, _ in LINES:
            self.check(" ".join(parts(line)[0]), None)

    def test_cut_after_each_word(self):
        for line, _ in LINES:
            words, expected = parts(line)
            for many in range(1, len(words)):
                text = " ".join(words[:many])
                missing = expected[many - 1]
                at_end = None if missing in (END, LOADS) else (len(text) + 1, missing)
                self.check(text, at_end)

    def test_a_wrong_word_at_each_place(self):
        for line, _ in LINES:
            words, expected = parts(line)
            for at in range(1, len(words)):
                column = len(" ".join(words[:at])) + 2
                self.check(" ".join([*words[:at], RUINED, *words[at + 1:]]), (column, expected[at - 1]))

    def test_a_word_too_many(self):
        for line, end in LINES:
            text = " ".join(parts(line)[0])
            for word in (RUINED, "end", "section"):
                self.check(f"{text} {word}", (len(text) + 2, end))

    def test_parts_in_another_order_or_twice(self):
        section = "section s stiff 1 2 pull 3 push 4"
        for text in (
            section + " weight 1 *breaks both", section + " breaks both *factor 1 1", section + " factor 1 1 *factor 1 1",
            section + " weight 1 *weight 1", "joint j 0 0 y *x", "joint j 0 0 x *x", "joint j 0 0 y 1 1 *x",
            "joint j 0 0 x 1 2 *3", "member m a b s losable *error 1 2", "member m a b s losable *losable",
            "lose 1 blow 2 *blow 2",
        ):
            self.check(text.replace("*", ""), (text.index("*") + 1, END))

    def test_columns_with_blanks_and_remarks(self):
        for text, place in (
            ("  joint   j  0", (15, "number")),
            ("  joint   j  0   ", (18, "number")),
            ("  joint   j  0  # 1", (17, "number")),
            ("joint j 0# 1", (10, "number")),
            ("joint #", (7, "name")),
            ("joint", (6, "name")),
            ("joint  ", (8, "name")),
            ("   gravity 1   x 2", (16, "number")),
            ("joint j 0 0    what # is this", (16, END)),
            ("dead   at  a 1 1  bt", (19, LOADS)),
            ("joint j 0 0 x 1   ", (19, "number")),
        ):
            self.check(text, place)

    def test_keywords_in_place_of_values(self):
        for text, place in (
            ("section s stiff 1 pull 3 push 4", (19, "number")),
            ("section s pull 3 push 4", (11, "stiff")),
            ("section s stiff 1 2 push 4", (21, "pull")),
            ("section s stiff 1 2 pull 3 pushed 4", (28, "push")),
            ("section s stiff 1 2 pull 3 push 4 breaks weight 1", (42, "push, pull or both")),
            ("section s stiff 1 2 pull 3 push 4 breaks both,", (42, "push, pull or both")),
            ("member m a b error 1 2", (20, END)),
            ("section S stiff 1 2 pull 3 push 4", (9, "name")),
            ("gravity 1 1/0", (11, "number")),
            ("lose 1.0", (6, "whole number")),
            ("lose -1", (6, "whole number")),
            ("dead at a 1 heat m 1", (13, "number")),
        ):
            self.check(text, place)


class FirstWords(unittest.TestCase):
    def test_in_texts(self):
        for word in (RUINED, "sections", "Section", "joints", "at", "heat", "without", "asked", "x", "1"):
            self.assertEqual(fault_of(word), (1, 1, FIRST))
            self.assertEqual(fault_of(f"\n # no\n  {word} more"), (3, 3, FIRST))

    def test_in_edits(self):
        for word in (RUINED, "sections", "Section", "joints", "at", "heat", "remove", "asked", "x", "1"):
            self.assertEqual(edit_fault(read_frame(""), word), (1, 1, FIRST_OF_EDIT))
            self.assertEqual(edit_fault(read_frame(""), f"\n # no\n  {word} more"), (3, 3, FIRST_OF_EDIT))


class SecondLines(unittest.TestCase):
    def test_the_second_one_of_its_kind(self):
        for line, kind in (("gravity 0 0", "gravity"), ("dead", "dead"), ("dead at a 1 1", "dead"),
                           ("lose 0", "lose"), ("lose 2 blow 1", "lose")):
            self.assertIsNone(fault_of(line))
            self.assertEqual(fault_of(f"{line}\n\n  {line} # again"), (3, 3, "no second " + kind))

    def test_a_second_one_that_is_wrong_by_itself(self):
        self.assertEqual(fault_of("gravity 0 0\ngravity 0"), (2, 10, "number"))
        self.assertEqual(fault_of("dead\ndead dead"), (2, 6, LOADS))
        self.assertEqual(fault_of("lose 1\nlose 1 1"), (2, 8, END))

    def test_different_kinds_and_others_twice(self):
        self.assertIsNone(fault_of("gravity 0 0\ndead\nlose 1\njoint a 0 0\njoint a 0 0\ngroup g\ngroup g"))


class CasesWithoutGroups(unittest.TestCase):
    def test_whatever_follows(self):
        for line in ("case", "case at a 1 1", "case at", "case nothing", "case # at"):
            self.assertEqual(fault_of(line), (1, 1, "group"))
            self.assertEqual(fault_of("dead\n  " + line + "\ngroup g"), (2, 3, "group"))


class SeveralFaults(unittest.TestCase):
    def test_the_first_one_is_told(self):
        self.assertEqual(fault_of("joint a 0\nnothing\ncase"), (1, 10, "number"))
        self.assertEqual(fault_of("joint A 0 0 0"), (1, 7, "name"))
        self.assertEqual(fault_of("gravity 1 1\nnothing\ngravity 1 1"), (2, 1, FIRST))
        self.assertEqual(fault_of("gravity 1 1\ngravity 1 1\nnothing"), (2, 1, "no second gravity"))
        self.assertEqual(fault_of("case\nnothing"), (1, 1, "group"))
