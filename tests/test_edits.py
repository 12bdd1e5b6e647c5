import unittest

from plain import plain
from standfast.errors import InvalidEdit
from standfast.frames.edits import edit_fault, edit_frame
from standfast.frames.reading import read_frame
from standfast.frames.writing import write_frame

LINES = (
    "section s stiff 1 1 pull 1 push 1", "section t stiff 2 2 pull 2 push 2", "section s stiff 3 3 pull 3 push 3",
    "joint a 0 0 x y", "joint b 1 1", "joint a 2 2",
    "member m a b s", "member n b a t", "member m b b t",
    "gravity 0 -1", "dead at a 1 1",
    "group g", "case at a 1 0", "case at a 2 0", "group h", "case heat m 1", "group g", "case at a 3 0",
    "lose 1 blow 2",
    "ask q a 1 0", "ask p b 0 1", "ask q b 1 1",
)
TEXT = "".join(line + "\n" for line in LINES)
THINGS = (("section", "s", "section"), ("joint", "a", "joint"), ("member", "m", "member"),
          ("ask", "q", "what is asked"))
FIRST = "section, joint, member, gravity, dead, group, case, lose, ask or without"


def changed(**lines):
    """The lines with some replaced, told by their indices; the empty text leaves a line out."""
    told = [lines.get(f"at{at}", line) for at, line in enumerate(LINES)]
    return "".join(line + "\n" for line in told if line)


class Edits(unittest.TestCase):
    def check(self, edit, written, text=TEXT):
        with self.subTest(edit):
            frame = read_frame(text)
            before = plain(frame)
            self.assertIsNone(edit_fault(frame, edit))
            edited = edit_frame(frame, edit)
            self.assertEqual(write_frame(edited), written)
            self.assertEqual(plain(edited), plain(read_frame(written)))
            self.assertEqual(plain(frame), before)

    def test_nothing(self):
        for edit in ("", "\n", "# nothing", "  \n # without joint a"):
            self.check(edit, TEXT)

    def test_replacing_the_first_of_its_name(self):
        for at, line in (
            (0, "section s stiff 7 8 pull 9 push 9 weight 1"), (1, "section t stiff 7 8 pull 9 push 9 breaks both"),
            (3, "joint a 5 5"), (4, "joint b 5 5 y"), (6, "member m b a t losable"), (7, "member n a b s error 1 2"),
            (19, "ask q a 3 3"), (20, "ask p a 3 3"),
        ):
            self.check(line, changed(**{f"at{at}": line}))

    def test_adding_after_all_others_of_its_kind(self):
        for at, line in (
            (2, "section u stiff 7 8 pull 9 push 9 weight 1"), (5, "joint c 5 5"), (8, "member o b a t losable"),
            (17, "group i"), (21, "ask r a 3 3"),
        ):
            self.check(line, changed(**{f"at{at}": LINES[at] + "\n" + line}))

    def test_a_thing_twice_in_one_edit(self):
        self.check("joint c 1 1\njoint b 3 3\njoint c 2 2", changed(at4="joint b 3 3", at5="joint a 2 2\njoint c 2 2"))

    def test_names_of_other_kinds_do_not_matter(self):
        self.check("joint m 1 1", changed(at5="joint a 2 2\njoint m 1 1"))

    def test_single_lines(self):
        self.check("gravity 1 1", changed(at9="gravity 1 1"))
        self.check("gravity 0 0", changed(at9=""))
        self.check("dead heat m 2", changed(at10="dead heat m 2"))
        self.check("dead", changed(at10=""))
        self.check("lose 3", changed(at18="lose 3"))
        self.check("lose 0", changed(at18=""))
        self.check("gravity 1 1\ndead\nlose 4\ngravity 2 2\ndead at b 0 1\nlose 5 blow 6",
                   changed(at9="gravity 2 2", at10="dead at b 0 1", at18="lose 5 blow 6"))
        self.check("gravity 1 1\ndead at a 0 1\nlose 2", "gravity 1 1\ndead at a 0 1\nlose 2\n", "")

    def test_groups_given_again_have_no_cases_at_first(self):
        self.check("group g", changed(at12="", at13=""))
        self.check("group h", changed(at15=""))
        self.check("group h\ncase\ncase at b 1 1", changed(at15="case\ncase at b 1 1"))
        self.check("group g\ncase heat n 1", changed(at12="case heat n 1", at13=""))
        self.check("group g\ncase heat n 1\ngroup g\ncase heat n 2", changed(at12="case heat n 2", at13=""))

    def test_other_things_between_a_group_and_its_cases(self):
        self.check("group g\njoint b 3 3\nmember n b a s\nwithout ask p\nwithout joint a\ncase",
                   changed(at3="", at4="joint b 3 3", at7="member n b a s", at12="case", at13="", at20=""))

    def test_cases_go_to_the_group_given_last(self):
        self.check("group h\njoint b 3 3\ncase\ngroup i\ncase heat m 2\ncase\ngroup g\ncase at b 0 0",
                   changed(at4="joint b 3 3", at12="case at b 0 0", at13="", at15="case",
                           at17="case at a 3 0\ngroup i\ncase heat m 2\ncase"))

    def test_cases_after_other_groups_were_removed(self):
        self.check("group h\nwithout group g\ncase", changed(at11="", at12="", at13="", at15="case"))
        self.check("group h\nwithout group g\nwithout group g\ncase",
                   changed(at11="", at12="", at13="", at15="case", at16="", at17=""))
        self.check("group g\nwithout group h\ncase", changed(at12="case", at13="", at14="", at15=""))
        self.check("group i\nwithout group g\ncase\ncase",
                   changed(at11="", at12="", at13="", at17="case at a 3 0\ngroup i\ncase\ncase"))

    def test_a_group_removed_and_given_again(self):
        self.check("group h\nwithout group h\ngroup h\ncase",
                   changed(at14="", at15="", at17="case at a 3 0\ngroup h\ncase"))
        self.check("group g\nwithout group g\ngroup g\ncase", changed(at11="", at12="", at13="", at17="case"))

    def test_removing(self):
        self.check("without section s", changed(at0=""))
        self.check("without section s\nwithout section s", changed(at0="", at2=""))
        self.check("without section t", changed(at1=""))
        self.check("without joint a", changed(at3=""))
        self.check("without member m # the first one", changed(at6=""))
        self.check("  without   group  g ", changed(at11="", at12="", at13=""))
        self.check("without ask q", changed(at19=""))
        self.check("without ask q\nask q a 3 3", changed(at19="", at21="ask q a 3 3"))
        self.check("joint c 1 1\nwithout joint c", TEXT)

    def test_the_edit_of_an_edited_frame(self):
        first = edit_frame(read_frame(TEXT), "without group h")
        second = edit_frame(first, "group g\ncase at b 1 1")
        self.assertEqual(write_frame(first), changed(at14="", at15=""))
        self.assertEqual(write_frame(second), changed(at12="case at b 1 1", at13="", at14="", at15=""))


class Faults(unittest.TestCase):
    def check(self, edit, place, text=TEXT):
        with self.subTest(edit):
            frame = read_frame(text)
            before = plain(frame)
            self.assertEqual(edit_fault(frame, edit), place)
            self.assertRaises(InvalidEdit, edit_frame, frame, edit)
            self.assertEqual(plain(frame), before)

    def test_cases_without_a_group_in_the_edit(self):
        for line in ("case", "case at a 1 1", "case at", "case nothing", "case # at"):
            self.check(line, (1, 1, "group"))
            self.check("joint c 1 1\n  " + line, (2, 3, "group"))
            self.check("joint a 1 1\nsection s stiff 1 1 pull 1 push 1\n  " + line, (3, 3, "group"))
            self.check("group h\nwithout group h\n " + line, (3, 2, "group"))
            self.check("group g\nwithout group g\n" + line, (3, 1, "group"))
            self.check("group i\ncase\nwithout group i\n" + line, (4, 1, "group"))

    def test_what_is_removed_is_not_there(self):
        for kind, name, words in (*THINGS, ("group", "h", "group")):
            what = words if kind == "ask" else "a " + words
            self.check(f"  without {kind} nobody # no", (1, 3, "name of " + what))
            self.check(f"without {kind} {name}", (1, 1, "name of " + what), "")
        for kind, name, words in (("section", "t", "a section"), ("joint", "b", "a joint"), ("member", "n", "a member"),
                                  ("group", "h", "a group"), ("ask", "p", "what is asked")):
            self.check(f"without {kind} {name}\n without {kind} {name}", (2, 2, "name of " + words))
        self.check("without joint s", (1, 1, "name of a joint"))
        self.check("without section a", (1, 1, "name of a section"))

    def test_the_words_of_a_removal(self):
        kinds = "section, joint, member, group or ask"
        self.check("without", (1, 8, kinds))
        self.check("without  # joint a", (1, 10, kinds))
        for word in ("case", "gravity", "dead", "lose", "without", "a", "1"):
            self.check(f" without  {word} a", (1, 11, kinds))
        for kind in ("section", "joint", "member", "group", "ask"):
            self.check("without " + kind, (1, 9 + len(kind), "name"))
            self.check(f"without {kind} A", (1, 10 + len(kind), "name"))
            self.check(f"without {kind} nobody a", (1, 17 + len(kind), "end of line"))

    def test_lines_as_in_texts(self):
        self.check("nothing", (1, 1, FIRST))
        self.check("joint c 0", (1, 10, "number"))
        self.check("joint a 0 0\n\ngroup h\ncase at a 1", (4, 12, "number"))
        self.check("section s stiff 1 1 pull 1 push 1 breaks it", (1, 42, "push, pull or both"))
        self.check("lose one", (1, 6, "whole number"))
        self.check("dead at a 1 1 on", (1, 15, "at or heat"))
        self.check("ask q a 1 0 1", (1, 13, "end of line"))

    def test_the_first_fault_is_told(self):
        self.check("without joint nobody\nnothing", (1, 1, "name of a joint"))
        self.check("without joint nobody 1", (1, 22, "end of line"))
        self.check("nothing\nwithout joint nobody", (1, 1, FIRST))

    def test_a_fault_behind_changes(self):
        self.check("without joint a\njoint b 9 9\ngroup g\ncase\ndead\nlose 0\ngravity 0 0\nnothing", (8, 1, FIRST))
