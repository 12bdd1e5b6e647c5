import unittest

from plain import plain
from standfast.frames.model import Asked, Case, Frame, Group, Joint, Member, Section, find

ONE_TWO = ((1, 1), (2, 1))


class Model(unittest.TestCase):
    def test_section(self):
        made = Section("s", ONE_TWO, (3, 1), (4, 1), ((1, 2), (3, 2)), "both", (5, 1))
        self.assertEqual((made.name, made.stiff, made.pull, made.push), ("s", ONE_TWO, (3, 1), (4, 1)))
        self.assertEqual((made.factor, made.breaks, made.weight), (((1, 2), (3, 2)), "both", (5, 1)))
        named = Section(name="s", stiff=list(ONE_TWO), pull=(3, 1), push=(4, 1), factor=[(1, 2), (3, 2)],
                        breaks="both", weight=(5, 1))
        self.assertEqual(plain(named), plain(made))

    def test_joint(self):
        made = Joint("j", ONE_TWO, (None, ONE_TWO))
        self.assertEqual((made.name, made.place, made.held), ("j", ONE_TWO, (None, ONE_TWO)))
        named = Joint(name="j", place=list(ONE_TWO), held=[None, list(ONE_TWO)])
        self.assertEqual(plain(named), plain(made))

    def test_member(self):
        made = Member("m", "a", "b", "s", ONE_TWO, True)
        self.assertEqual((made.name, made.first, made.second, made.section), ("m", "a", "b", "s"))
        self.assertEqual((made.error, made.losable), (ONE_TWO, True))
        named = Member(name="m", first="a", second="b", section="s", error=list(ONE_TWO), losable=True)
        self.assertEqual(plain(named), plain(made))

    def test_case(self):
        forces = [("a", (1, 1), (2, 1)), ("b", (0, 1), (1, 3))]
        heats = [("m", (1, 2))]
        made = Case(forces, heats)
        self.assertEqual(made.forces, (("a", (1, 1), (2, 1)), ("b", (0, 1), (1, 3))))
        self.assertEqual(made.heats, (("m", (1, 2)),))
        self.assertEqual(plain(Case(forces=tuple(forces), heats=[["m", (1, 2)]])), plain(made))
        forces.append("x")
        heats.clear()
        self.assertEqual((len(made.forces), len(made.heats)), (2, 1))

    def test_group(self):
        cases = [Case([], []), Case([("a", (1, 1), (2, 1))], [])]
        made = Group("g", cases)
        self.assertEqual(made.name, "g")
        self.assertEqual(plain(made.cases), plain(tuple(cases)))
        self.assertEqual(plain(Group(name="g", cases=tuple(cases))), plain(made))
        cases.pop()
        self.assertEqual(len(made.cases), 2)

    def test_asked(self):
        made = Asked("q", "j", ONE_TWO)
        self.assertEqual((made.name, made.joint, made.along), ("q", "j", ONE_TWO))
        self.assertEqual(plain(Asked(name="q", joint="j", along=list(ONE_TWO))), plain(made))

    def test_frame(self):
        section = Section("s", ONE_TWO, (3, 1), (4, 1), ONE_TWO, "", (5, 1))
        joint = Joint("j", ONE_TWO, (None, None))
        member = Member("m", "a", "b", "s", ONE_TWO, False)
        dead = Case([], [("m", (1, 2))])
        group = Group("g", [])
        asked = Asked("q", "j", ONE_TWO)
        made = Frame((section,), (joint,), (member,), ONE_TWO, dead, (group,), 2, (3, 2), (asked,))
        self.assertEqual(plain((made.sections, made.joints, made.members)), plain(((section,), (joint,), (member,))))
        self.assertEqual(plain((made.gravity, made.dead, made.groups)), plain((ONE_TWO, dead, (group,))))
        self.assertEqual(plain((made.lose, made.blow, made.asked)), plain((2, (3, 2), (asked,))))
        sections = [section]
        named = Frame(sections=sections, joints=[joint], members=[member], gravity=list(ONE_TWO), dead=dead,
                      groups=[group], lose=2, blow=(3, 2), asked=[asked])
        self.assertEqual(plain(named), plain(made))
        sections.append(section)
        self.assertEqual(len(named.sections), 1)


class Found(unittest.TestCase):
    def test_find(self):
        items = [Group("a", ()), Group("b", ()), Group("a", ())]
        self.assertEqual(find(items, "a"), 0)
        self.assertEqual(find(tuple(items), "b"), 1)
        self.assertIsNone(find(items, "c"))
        self.assertIsNone(find([], "a"))
