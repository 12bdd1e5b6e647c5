import copy
import random
import unittest
from fractions import Fraction

import oracle
from standfast.programs.conditions import just, least, meets, most
from standfast.programs.nearest import greatest, nearest
from standfast.ratios import ONE, ZERO, ratio
from test_conditions import some_conditions, whole


class Nearest(unittest.TestCase):
    def test_one_unknown(self):
        one = whole(1)
        for conditions, value in (
            ([most(one, (5, 1)), least(one, (-3, 1))], (0, 1)),
            ([most(one, (0, 1)), least(one, (-3, 1))], (0, 1)),
            ([most(one, (5, 1)), least(one, (0, 1))], (0, 1)),
            ([most(one, (5, 1)), least(one, (2, 3))], (2, 3)),
            ([most(one, (-1, 3)), least(one, (-5, 1))], (-1, 3)),
            ([least(one, (2, 1))], (2, 1)),
            ([most(one, (-2, 1))], (-2, 1)),
            ([just(whole(3), (-2, 1))], (-2, 3)),
            ([just(one, (0, 1))], (0, 1)),
            ([], (0, 1)),
        ):
            self.assertEqual(nearest(conditions, 1), (value,))

    def test_earlier_unknowns_come_first(self):
        self.assertEqual(nearest([just(whole(1, 1), (3, 1))], 2), whole(0, 3))
        self.assertEqual(nearest([just(whole(1, 1), (3, 1)), most(whole(0, 1), (2, 1))], 2), whole(1, 2))
        self.assertEqual(nearest([least(whole(1, 1), (-3, 1)), most(whole(1, 1), (-1, 1))], 2), whole(0, -1))
        self.assertEqual(nearest([just(whole(1, 2, 3), (6, 1))], 3), whole(0, 0, 2))
        self.assertEqual(
            nearest([just(whole(1, 2, 3), (6, 1)), most(whole(0, 0, 1), (1, 1)), most(whole(0, 1, 0), (1, 1))], 3),
            whole(1, 1, 1),
        )
        self.assertEqual(nearest([least(whole(1, -1), (0, 1)), least(whole(0, 1), (2, 1))], 2), whole(2, 2))

    def test_not_to_be_met(self):
        self.assertIsNone(nearest([most(whole(1), (1, 1)), least(whole(1), (2, 1))], 1))
        self.assertIsNone(nearest([just(whole(0, 0), (1, 1))], 2))
        self.assertIsNone(nearest([just(whole(1, 1), (1, 1)), just(whole(1, 1), (2, 1))], 2))
        self.assertIsNone(nearest([most((), (-1, 1))], 0))

    def test_no_conditions_and_no_unknowns(self):
        self.assertEqual(nearest([], 0), ())
        self.assertEqual(nearest([], 3), whole(0, 0, 0))
        self.assertEqual(nearest([most((), (0, 1))], 0), ())

    def test_many(self):
        for unknowns in (1, 2, 3):
            for conditions in some_conditions(10 + unknowns, 500, unknowns):
                before = copy.deepcopy(conditions)
                values = nearest(conditions, unknowns)
                self.assertEqual(conditions, before)
                self.assertEqual(values, oracle.nearest(conditions, unknowns))
                if values is not None:
                    self.assertIs(type(values), tuple)
                    self.assertTrue(meets(values, conditions))

    def test_unknowns_that_depend_on_one_another(self):
        for rows, values in (
            (((0, 2, 3, -6), (-1, 2, -2, -4), (0, 2, 0, -6), (-1, -1, -1, 4)), whole(0, -3, 0)),
            (((1, 0, 3, -6), (2, 0, 3, -12), (3, -2, 1, -8), (2, 3, -1, -4), (1, 3, -1, 2)), whole(0, -12, -32)),
        ):
            conditions = [most(whole(*row[:-1]), ratio(row[-1])) for row in rows]
            self.assertEqual(nearest(conditions, 3), values)
            self.assertEqual(oracle.nearest(conditions, 3), values)

    def test_many_that_are_met_by_few_values(self):
        chance = random.Random(41)
        for _ in range(1500):
            unknowns = chance.randint(3, 4)
            inside = [chance.randint(-3, 3) for _ in range(unknowns)]
            conditions = []
            for _ in range(chance.randint(unknowns, 2 * unknowns)):
                row = [chance.choice((0, 0, 1, -1, 2, -2, 3)) for _ in range(unknowns)]
                bound = sum(a * b for a, b in zip(row, inside)) + chance.choice((0, 0, 1, 3))
                conditions.append(most(whole(*row), ratio(bound)))
            self.assertEqual(nearest(conditions, unknowns), oracle.nearest(conditions, unknowns))

    def test_many_unknowns(self):
        chance = random.Random(3)
        for _ in range(5):
            inside = tuple(ratio(chance.randint(-5, 5)) for _ in range(20))
            conditions = []
            for _ in range(15):
                numbers = tuple(ratio(chance.randint(-9, 9)) for _ in range(20))
                told = sum(Fraction(*a) * Fraction(*b) for a, b in zip(numbers, inside))
                conditions.append(chance.choice((most, least, just))(numbers, (told.numerator, told.denominator)))
            values = nearest(conditions, 20)
            self.assertTrue(meets(values, conditions))


class Greatest(unittest.TestCase):
    def test_told(self):
        self.assertEqual(greatest([most(whole(2), (5, 1))], 1), (5, 2))
        self.assertEqual(greatest([most(whole(1), (-5, 1))], 1), (-5, 1))
        self.assertEqual(greatest([most(whole(1), (0, 1)), least(whole(1), (-7, 1))], 1), ZERO)
        self.assertEqual(greatest([just(whole(3), (2, 1))], 1), (2, 3))
        self.assertEqual(greatest([most(whole(1, 1), (4, 1)), least(whole(0, 1), (1, 1))], 2), whole(3)[0])
        self.assertEqual(greatest([just(whole(1, 1, 1), (4, 1)), least(whole(0, 1, 0), (-1, 1)),
                                   least(whole(0, 0, 1), (-2, 1))], 3), whole(7)[0])

    def test_none(self):
        self.assertIsNone(greatest([], 1))
        self.assertIsNone(greatest([], 3))
        self.assertIsNone(greatest([least(whole(1), (5, 1))], 1))
        self.assertIsNone(greatest([most(whole(0, 1), (5, 1))], 2))
        self.assertIsNone(greatest([just(whole(1, 1), (5, 1))], 2))
        self.assertIsNone(greatest([most(whole(1, -1), (5, 1)), least(whole(0, 1), (3, 1))], 2))

    def test_many(self):
        nones = 0
        for unknowns in (1, 2, 3):
            for conditions in some_conditions(20 + unknowns, 400, unknowns):
                ends = oracle.interval(oracle.inequalities(conditions), unknowns)
                if ends is None:
                    continue
                before = copy.deepcopy(conditions)
                value = greatest(conditions, unknowns)
                self.assertEqual(conditions, before)
                self.assertEqual(value, None if ends[1] is None else oracle.pair(ends[1]))
                first = (ONE, *[ZERO] * (unknowns - 1))
                if value is None:
                    nones += 1
                    self.assertIsNotNone(nearest(conditions + [least(first, (10 ** 9, 1))], unknowns))
                else:
                    met = nearest(conditions + [just(first, value)], unknowns)
                    self.assertTrue(meets(met, conditions))
                    self.assertEqual(met[0], value)
        self.assertGreater(nones, 50)
