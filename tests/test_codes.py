import random
import unittest

from making import some_pair, some_pairs, some_ratio, structure, whole
from plain import plain
from standfast.errors import InvalidPaper, StandfastError
from standfast.papers.codes import read_paper, write_paper
from standfast.papers.kinds import Borne, Bounds, Falls, SetPaper, Turns
from standfast.papers.yielding import YieldPaper

PAIR = (((1, 2), (-3, 1)), ((5, 7),))
EMPTY = ((), ())
BOUNDS = Bounds([
    SetPaper((), YieldPaper(PAIR, [[PAIR, EMPTY], []], (1, 9)), [EMPTY]),
    SetPaper((0, 3), YieldPaper(EMPTY, [], (-2, 1)), []),
])
BOUNDS_TEXT = "standfast bounds\n2 0 2 1/2 -3 1 5/7 2 2 2 1/2 -3 1 5/7 0 0 0 1/9 1 0 0 2 0 3 0 0 0 -2 0\n"
BORNE = Borne([[[(1, 2), (0, 1)], [(-1, 1)]], [], [[]]])
BORNE_TEXT = "standfast borne\n3 2 2 1/2 0 1 -1 0 1 0\n"
TURNS = Turns((1,), [(4, (0, 11), (2, 3)), (0, (), (-1, 1))], [(7, (1, 2)), (7, (0, 1))], [[PAIR], []])
TURNS_TEXT = "standfast turns\n1 1 2 4 2 0 11 2/3 0 0 -1 2 7 1/2 7 0 2 1 2 1/2 -3 1 5/7 0\n"
FALLS = Falls((1, 2, 5), (3, 0), [(2, (1, 3))], [(0, (-1, 2)), (0, (4, 1))])
FALLS_TEXT = "standfast falls\n3 1 2 5 2 3 0 1 2 1/3 2 0 -1/2 0 4\n"
ALL = ((BOUNDS, BOUNDS_TEXT), (BORNE, BORNE_TEXT), (TURNS, TURNS_TEXT), (FALLS, FALLS_TEXT))


class Written(unittest.TestCase):
    def test_each_kind(self):
        for paper, text in ALL:
            before = plain(paper)
            self.assertEqual(write_paper(paper), text)
            self.assertEqual(plain(paper), before)

    def test_empty_lists(self):
        self.assertEqual(write_paper(Bounds([])), "standfast bounds\n0\n")
        self.assertEqual(write_paper(Borne([])), "standfast borne\n0\n")
        self.assertEqual(write_paper(Turns((), [], [], [])), "standfast turns\n0 0 0 0\n")
        self.assertEqual(write_paper(Falls((), (), [], [])), "standfast falls\n0 0 0 0\n")


class Read(unittest.TestCase):
    def test_each_kind(self):
        for paper, text in ALL:
            found = read_paper(text)
            self.assertIs(type(found), type(paper))
            self.assertEqual(plain(found), plain(paper))
            self.assertEqual(found.kind, paper.kind)
            self.assertEqual(write_paper(found), text)

    def test_empty_lists(self):
        for paper in (Bounds([]), Borne([]), Turns((), [], [], []), Falls((), (), [], [])):
            self.assertEqual(plain(read_paper(write_paper(paper))), plain(paper))

    def test_by_chance(self):
        chance = random.Random(76)
        made = structure("section s stiff 1 1 pull 1 push 1\njoint a 0 0 x y\njoint b 1 0\nmember m a b s\nmember n b a s\n"
                         "group g\ncase\ncase\ngroup h\ncase")
        for _ in range(100):
            lost = tuple(sorted(chance.sample(range(12), chance.randint(0, 4))))
            base, pairs = some_pair(chance, made), some_pairs(chance, made)
            units = [some_pair(chance, made) for _ in range(chance.randint(0, 3))]
            entries = [[(chance.randint(0, 20), some_ratio(chance)) for _ in range(chance.randint(0, 4))] for _ in "ab"]
            choice = [chance.randint(0, 11) for _ in range(chance.randint(0, 3))]
            for paper in (
                Bounds([SetPaper(lost, YieldPaper(base, pairs, some_ratio(chance)), units)] * chance.randint(0, 2)),
                Borne([[pair[0] for pair in group] for group in pairs]),
                Turns(lost, [(at, choice, amount) for at, amount in entries[0]], entries[1], pairs),
                Falls(lost, choice, *entries),
            ):
                text = write_paper(paper)
                self.assertEqual(plain(read_paper(text)), plain(paper))
                self.assertEqual(write_paper(read_paper(text)), text)

    def test_great_numbers(self):
        paper = Falls((10 ** 30,), (10 ** 200,), [(7, (10 ** 390, 10 ** 389 + 1))], [])
        self.assertEqual(plain(read_paper(write_paper(paper))), plain(paper))


class NoPapers(unittest.TestCase):
    def refuse(self, *texts):
        for text in texts:
            with self.subTest(text), self.assertRaises(InvalidPaper):
                read_paper(text)

    def test_the_error(self):
        with self.assertRaises(StandfastError):
            read_paper("")

    def test_the_first_line(self):
        for _, text in ALL:
            first, second, _ = text.split("\n")
            self.refuse(text.replace("standfast", "Standfast"), text.replace("standfast ", "standfast"), " " + text,
                        text.replace(first, first + " "), text.replace(first, first + "s"), second + "\n",
                        text.replace("standfast ", "standfast  "), text.replace(first, ""))
        self.refuse("standfast lighter\n0\n", "standfast open\n0\n", "standfast \n0\n", "standfast\n0\n")
        self.refuse(BOUNDS_TEXT.replace("bounds", "borne"), FALLS_TEXT.replace("falls", "turns"))

    def test_line_feeds(self):
        for _, text in ALL:
            self.refuse(text[:-1], text + "\n", "\n" + text, text.replace("\n", "\n\n", 1), text.replace("\n", " "),
                        text + "0\n", text + " ")
        self.refuse("standfast bounds", "standfast bounds\n", "standfast bounds\n0", "\n\n", "\n", "")

    def test_a_second_line_without_a_ratio(self):
        for word in ("bounds", "borne", "turns", "falls"):
            self.refuse(f"standfast {word}\n\n", f"standfast {word}\n \n")

    def test_blanks(self):
        for _, text in ALL:
            first, second, _ = text.split("\n")
            self.refuse(f"{first}\n {second}\n", f"{first}\n{second} \n")
            for at, letter in enumerate(second):
                if letter == " ":
                    self.refuse(f"{first}\n{second[:at]} {second[at:]}\n")

    def test_ratios_that_are_not_in_their_written_form(self):
        for word in ("2/4", "3/1", "-0", "01", "+1", "1/-2", "0/1", "1.5", "x", "1/0", "--1", "1/", "/2", "0x1"):
            self.refuse(f"standfast falls\n0 0 1 0 {word} 0\n")
        for _, text in ALL:
            first, second, _ = text.split("\n")
            words = second.split(" ")
            for at, word in enumerate(words):
                for other in (word + "/1", "0" + word, "", "#"):
                    changed = " ".join(words[:at] + [other] + words[at + 1:])
                    self.refuse(f"{first}\n{changed}\n")

    def test_indices(self):
        for word in ("-1", "1/2", "-1/2"):
            self.refuse(
                f"standfast bounds\n1 1 {word} 0 0 0 1 0\n",
                f"standfast turns\n1 {word} 0 0 0\n",
                f"standfast turns\n0 1 {word} 0 1 0 0\n",
                f"standfast turns\n0 1 0 1 {word} 1 0 0\n",
                f"standfast turns\n0 0 1 {word} 1 0\n",
                f"standfast falls\n1 {word} 0 0 0\n",
                f"standfast falls\n0 1 {word} 0 0\n",
                f"standfast falls\n0 0 1 {word} 1 0\n",
                f"standfast falls\n0 0 0 1 {word} 1\n",
            )
        read_paper("standfast falls\n1 0 1 0 1 0 -1/2 1 0 -1/2\n")

    def test_counts(self):
        # All counts of these texts, by their places.
        for text, places in ((BOUNDS_TEXT, (0, 1, 2, 5, 7, 8, 9, 12, 14, 15, 16, 18, 19, 20, 21, 24, 25, 26, 28)),
                             (BORNE_TEXT, (0, 1, 2, 5, 7, 8, 9)), (TURNS_TEXT, (0, 2, 4, 9, 11, 16, 17, 18, 21, 23)),
                             (FALLS_TEXT, (0, 4, 7, 10))):
            first, second, _ = text.split("\n")
            words = second.split(" ")
            for at in places:
                count = int(words[at])
                for other in (count + 1, count - 1, -1, count + 10 ** 30, f"{2 * count + 1}/2"):
                    changed = " ".join(words[:at] + [str(other)] + words[at + 1:])
                    self.refuse(f"{first}\n{changed}\n")

    def test_something_left_over_or_missing(self):
        for _, text in ALL:
            first, second, _ = text.split("\n")
            words = second.split(" ")
            self.refuse(f"{first}\n{second} 0\n", f"{first}\n{second} 1/2\n", f"{first}\n0 {second}\n")
            for at in range(1, len(words)):
                self.refuse(f"{first}\n{' '.join(words[:at])}\n")

    def test_members_ascend(self):
        for lost, many in (("1 0", 2), ("1 1", 2), ("0 2 1", 3), ("0 0", 2), ("3 3 4", 3)):
            self.refuse(f"standfast bounds\n1 {many} {lost} 0 0 0 1 0\n", f"standfast turns\n{many} {lost} 0 0 0\n",
                        f"standfast falls\n{many} {lost} 0 0 0\n")
        for lost, many in (("0 1", 2), ("2", 1), ("0 5 11", 3)):
            read_paper(f"standfast bounds\n1 {many} {lost} 0 0 0 1 0\n")
            read_paper(f"standfast turns\n{many} {lost} 0 0 0\n")
            read_paper(f"standfast falls\n{many} {lost} 0 0 0\n")

    def test_other_lists_may_have_any_order(self):
        text = "standfast falls\n0 3 2 1 1 2 5 1 3 1 2 1 0 1 0\n"
        self.assertEqual(plain(read_paper(text)), plain(Falls(
            (), (2, 1, 1), [(5, (1, 1)), (3, (1, 1))], [(1, (0, 1)), (1, (0, 1))])))

    def test_sets_may_occur_twice(self):
        paper = read_paper("standfast bounds\n2 1 4 0 0 0 1 0 1 4 0 0 0 1 0\n")
        self.assertEqual([item.lost for item in paper.sets], [(4,), (4,)])
        self.assertEqual(paper.sets[0].paper.base, (whole(), whole()))
