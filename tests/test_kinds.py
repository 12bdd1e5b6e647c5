import unittest

from making import whole
from plain import plain
from standfast.papers.kinds import Borne, Bounds, Falls, SetPaper, Turns
from standfast.papers.yielding import YieldPaper

PAIR = (whole(1, 2), whole(3))
PAPER = YieldPaper(PAIR, ((PAIR,), ()), (1, 2))


def as_lists(thing):
    return [as_lists(item) for item in thing] if isinstance(thing, tuple) else thing


class Made(unittest.TestCase):
    def check(self, kind, **attributes):
        """Made from tuples or from lists, by place or by name, the attributes are tuples of their own."""
        made = kind(*attributes.values())
        for name, value in attributes.items():
            self.assertEqual(plain(getattr(made, name)), plain(value))
        lists = {name: as_lists(value) for name, value in attributes.items()}
        other = kind(**lists)
        self.assertEqual(plain(other), plain(made))
        for value in lists.values():
            if isinstance(value, list):
                value.append(value[:])
        self.assertEqual(plain(other), plain(made))
        return made

    def test_set_paper(self):
        made = self.check(SetPaper, lost=(0, 2), paper=PAPER, units=(PAIR, ((), ())))
        self.assertEqual(plain(made.paper), plain(PAPER))
        self.check(SetPaper, lost=(), paper=PAPER, units=())

    def test_bounds(self):
        sets = (SetPaper((), PAPER, ()), SetPaper((1,), PAPER, (PAIR,)))
        made = Bounds(sets)
        self.assertEqual((plain(made.sets), made.kind), (plain(sets), "bounds"))
        listed = list(sets)
        made = Bounds(sets=listed)
        listed.clear()
        self.assertEqual(plain(made.sets), plain(sets))

    def test_borne(self):
        made = self.check(Borne, forces=((whole(1, 2), whole(0, 0)), (), (whole(),)))
        self.assertEqual(made.kind, "borne")

    def test_turns(self):
        made = self.check(Turns, lost=(1,), yields=((0, (1, 0), (1, 2)), (3, (), (2, 1))), movement=((0, (1, 3)),),
                          pairs=((PAIR, PAIR), ()))
        self.assertEqual(made.kind, "turns")

    def test_falls(self):
        made = self.check(Falls, lost=(0, 3), choice=(1, 1), movement=((2, (1, 3)),), amounts=((0, (1, 1)), (4, (1, 2))))
        self.assertEqual(made.kind, "falls")
