import copy
import random
import unittest
from fractions import Fraction

from standfast.linear.equations import dot, loose_values, solve
from standfast.ratios import ONE, ZERO, ratio


def system(*rows):
    """Equations from rows of integers whose last one is the amount."""
    return [(tuple(ratio(n) for n in row[:-1]), ratio(row[-1])) for row in rows]


def whole(*numbers):
    return tuple(ratio(n) for n in numbers)


def loose_by_the_document(equations):
    """Point [14], step by step."""
    left = [[Fraction(*a) for a in numbers] for numbers, _ in equations]
    many = len(left)
    aside = []
    values = None
    for k in range(many):
        at = next((i for i, row in enumerate(left) if row[k] != 0), None)
        if at is None:
            values = [Fraction(0)] * many
            values[k] = Fraction(1)
            break
        used = left.pop(at)
        left = [[a - row[k] / used[k] * b for a, b in zip(row, used)] for row in left]
        aside.append((k, used))
    if values is None:
        return None
    for k, row in reversed(aside):
        values[k] = -sum(row[j] * values[j] for j in range(k + 1, many)) / row[k]
    return tuple((v.numerator, v.denominator) for v in values)


class Solved(unittest.TestCase):
    def test_one_solution(self):
        self.assertEqual(solve(system((2, 3))), ((3, 2),))
        self.assertEqual(solve(system((1, 1, 3), (1, -1, 1))), whole(2, 1))
        self.assertEqual(solve(system((0, 2, 4), (3, 0, 1))), ((1, 3), (2, 1)))
        self.assertEqual(solve(system((0, 0, 1, 3), (1, 0, 0, 1), (0, 1, 0, 2))), whole(1, 2, 3))
        self.assertEqual(solve(system((1, 1, 0), (1, 2, 0))), whole(0, 0))

    def test_ratios_as_numbers(self):
        equations = [(((1, 2), (1, 3)), (1, 1)), (((1, 4), (-1, 3)), (1, 5))]
        self.assertEqual(solve(equations), ((8, 5), (3, 5)))

    def test_none_and_many(self):
        for equations in (
            system((0, 1)), system((0, 0)), system((1, 1, 1), (1, 1, 2)), system((1, 1, 1), (2, 2, 2)),
            system((0, 1, 1), (0, 2, 5)), system((1, 2, 3, 1), (4, 5, 6, 2), (7, 8, 9, 3)),
            system((1, 2, 3, 1), (4, 5, 6, 2), (7, 8, 9, 4)),
        ):
            self.assertIsNone(solve(equations))
            self.assertIsNotNone(loose_values(equations))

    def test_no_equations(self):
        self.assertEqual(solve([]), ())
        self.assertIsNone(loose_values([]))

    def test_many_systems(self):
        chance = random.Random(11)
        singular = 0
        for _ in range(600):
            many = chance.randint(1, 5)
            equations = []
            for _ in range(many):
                numbers = tuple(ratio(chance.choice((0, 0, 0, 1, -1, 2, 3)), chance.choice((1, 1, 2, 7)))
                                for _ in range(many))
                equations.append((numbers, ratio(chance.randint(-5, 5), 3)))
            before = copy.deepcopy(equations)
            values = solve(equations)
            loose = loose_values(equations)
            self.assertEqual(equations, before)
            self.assertEqual(loose, loose_by_the_document(equations))
            self.assertEqual(values is None, loose is not None)
            if values is None:
                singular += 1
                self.assertTrue(any(value != ZERO for value in loose))
                self.assertTrue(all(dot(numbers, loose) == ZERO for numbers, _ in equations))
            else:
                self.assertIs(type(values), tuple)
                self.assertTrue(all(dot(numbers, values) == amount for numbers, amount in equations))
        self.assertTrue(100 < singular < 500)


class Loose(unittest.TestCase):
    def test_a_number_of_nothing_everywhere(self):
        self.assertEqual(loose_values(system((0, 1))), (ONE,))
        self.assertEqual(loose_values(system((0, 1, 1), (0, 2, 5))), whole(1, 0))
        self.assertEqual(loose_values(system((1, 0, 1), (2, 0, 5))), whole(0, 1))
        self.assertEqual(loose_values(system((0, 0, 1), (0, 0, 2))), whole(1, 0))

    def test_as_the_document_determines_them(self):
        self.assertEqual(loose_values(system((1, 2, 9), (2, 4, 7))), whole(-2, 1))
        self.assertEqual(loose_values(system((1, 2, 3, 1), (4, 5, 6, 2), (7, 8, 9, 3))), whole(1, -2, 1))
        self.assertEqual(loose_values(system((2, 1, 1, 0), (2, 1, 5, 0), (0, 0, 7, 1))), ((-1, 2), (1, 1), (0, 1)))
        self.assertEqual(loose_values(system((1, 1, 1, 1), (1, 1, 1, 1), (1, 1, 1, 1))), whole(-1, 1, 0))

    def test_exactly_one_solution(self):
        self.assertIsNone(loose_values(system((2, 3))))
        self.assertIsNone(loose_values(system((1, 1, 3), (1, -1, 1))))


class Products(unittest.TestCase):
    def test_dot(self):
        self.assertEqual(dot((), ()), ZERO)
        self.assertEqual(dot(((1, 2), (1, 3)), ((1, 2), (3, 4))), (1, 2))
        self.assertEqual(dot(whole(1, 2, 3), whole(3, 0, -1)), ZERO)
