import unittest

from standfast.structure.rows import add_rows, make_row, row_at, row_dot, times_row

ROW = ((1, (1, 2)), (4, (-3, 1)), (7, (2, 3)))


class Rows(unittest.TestCase):
    def test_made(self):
        amounts = {7: (2, 3), 1: (1, 2), 3: (0, 1), 4: (-3, 1), 0: (0, 1)}
        before = list(amounts.items())
        self.assertEqual(make_row(amounts), ROW)
        self.assertEqual(list(amounts.items()), before)
        self.assertEqual(make_row({}), ())
        self.assertEqual(make_row({5: (0, 1)}), ())
        self.assertEqual(make_row({10: (1, 1), 9: (1, 1), 2: (1, 1)}), ((2, (1, 1)), (9, (1, 1)), (10, (1, 1))))

    def test_at_a_place(self):
        self.assertEqual([row_at(ROW, place) for place in range(9)], [
            (0, 1), (1, 2), (0, 1), (0, 1), (-3, 1), (0, 1), (0, 1), (2, 3), (0, 1)])
        self.assertEqual(row_at((), 0), (0, 1))

    def test_dot(self):
        ones = ((1, 1),) * 8
        self.assertEqual(row_dot(ROW, ones), (-11, 6))
        self.assertEqual(row_dot(ROW, ((5, 1), (4, 1), (5, 1), (5, 1), (1, 3), (5, 1), (5, 1), (-3, 2), (5, 1))), (0, 1))
        self.assertEqual(row_dot(ROW, ones[:7]), (-5, 2))
        self.assertEqual(row_dot(ROW, ones[:2]), (1, 2))
        self.assertEqual(row_dot(ROW, ones[:1]), (0, 1))
        self.assertEqual(row_dot(ROW, ()), (0, 1))
        self.assertEqual(row_dot((), ones), (0, 1))

    def test_added(self):
        other = ((0, (1, 1)), (1, (-1, 2)), (7, (1, 3)), (9, (1, 1)))
        self.assertEqual(add_rows([]), ())
        self.assertEqual(add_rows([()]), ())
        self.assertEqual(add_rows([ROW]), ROW)
        self.assertEqual(add_rows([ROW, other]), ((0, (1, 1)), (4, (-3, 1)), (7, (1, 1)), (9, (1, 1))))
        self.assertEqual(add_rows([other, ROW]), add_rows([ROW, other]))
        self.assertEqual(add_rows([ROW, ROW, ROW]), ((1, (3, 2)), (4, (-9, 1)), (7, (2, 1))))
        self.assertEqual(add_rows([ROW, times_row(ROW, (-1, 1))]), ())

    def test_the_list_stays_as_it_was(self):
        rows = [ROW, ((0, (1, 1)),)]
        add_rows(rows)
        self.assertEqual(rows, [ROW, ((0, (1, 1)),)])

    def test_multiplied(self):
        self.assertEqual(times_row(ROW, (2, 1)), ((1, (1, 1)), (4, (-6, 1)), (7, (4, 3))))
        self.assertEqual(times_row(ROW, (-1, 3)), ((1, (-1, 6)), (4, (1, 1)), (7, (-2, 9))))
        self.assertEqual(times_row(ROW, (0, 1)), ())
        self.assertEqual(times_row((), (2, 1)), ())
