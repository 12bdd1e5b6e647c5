import random
import unittest
from fractions import Fraction
from math import gcd

from standfast.ratios import (
    at_most, greater_one, greatest_of, less, lesser_one, minus, negative, over, plus, ratio, sign, size, times, total,
    with_sign,
)


def as_pair(number):
    return (number.numerator, number.denominator)


def some_numbers():
    chance = random.Random(7)
    found = [Fraction(0), Fraction(1), Fraction(-1), Fraction(1, 2), Fraction(-1, 2), Fraction(7, 3)]
    for digits in (1, 2, 5, 20, 40):
        for _ in range(6):
            n = chance.randint(-10 ** digits, 10 ** digits)
            found.append(Fraction(n, chance.randint(1, 10 ** digits)))
    return found


class Made(unittest.TestCase):
    def test_signs_on_both_sides_of_nothing(self):
        self.assertEqual(ratio(3, 4), (3, 4))
        self.assertEqual(ratio(-3, 4), (-3, 4))
        self.assertEqual(ratio(3, -4), (-3, 4))
        self.assertEqual(ratio(-3, -4), (3, 4))

    def test_common_divisors(self):
        self.assertEqual(ratio(6, 4), (3, 2))
        self.assertEqual(ratio(-6, 4), (-3, 2))
        self.assertEqual(ratio(6, -3), (-2, 1))
        self.assertEqual(ratio(10 ** 40, 10 ** 39), (10, 1))

    def test_nothing_has_one_ratio(self):
        for d in (1, -1, 7, -12, 10 ** 40):
            self.assertEqual(ratio(0, d), (0, 1))

    def test_the_denominator_may_be_left_out(self):
        self.assertEqual(ratio(5), (5, 1))
        self.assertEqual(ratio(-5), (-5, 1))
        self.assertEqual(ratio(0), (0, 1))
        self.assertEqual(ratio(n=4, d=6), (2, 3))

    def test_it_is_a_tuple_of_integers(self):
        for made in (ratio(4, 6), ratio(0), ratio(5)):
            self.assertIs(type(made), tuple)
            self.assertEqual([type(part) for part in made], [int, int])


class Calculated(unittest.TestCase):
    def check(self, result, number):
        self.assertEqual(result, as_pair(number))
        self.assertIs(type(result), tuple)
        self.assertGreaterEqual(result[1], 1)
        self.assertEqual(gcd(result[0], result[1]), 1)

    def test_two_ratios(self):
        for x in some_numbers():
            for y in some_numbers():
                a, b = as_pair(x), as_pair(y)
                self.check(plus(a, b), x + y)
                self.check(minus(a, b), x - y)
                self.check(times(a, b), x * y)
                if y != 0:
                    self.check(over(a, b), x / y)

    def test_one_ratio(self):
        for x in some_numbers():
            a = as_pair(x)
            self.check(negative(a), -x)
            self.check(size(a), abs(x))
            self.assertEqual(sign(a), (x > 0) - (x < 0))

    def test_by_hand(self):
        self.assertEqual(plus((1, 6), (1, 3)), (1, 2))
        self.assertEqual(minus((1, 6), (1, 6)), (0, 1))
        self.assertEqual(times((2, 3), (-3, 2)), (-1, 1))
        self.assertEqual(over((1, 2), (-1, 4)), (-2, 1))
        self.assertEqual(over((0, 1), (-1, 4)), (0, 1))
        self.assertEqual(negative((0, 1)), (0, 1))


class Compared(unittest.TestCase):
    def test_all_pairs(self):
        for x in some_numbers():
            for y in some_numbers():
                a, b = as_pair(x), as_pair(y)
                self.assertIs(less(a, b), x < y)
                self.assertIs(at_most(a, b), x <= y)
                self.assertEqual(greater_one(a, b), as_pair(max(x, y)))
                self.assertEqual(lesser_one(a, b), as_pair(min(x, y)))

    def test_equal_ones(self):
        self.assertIs(less((1, 3), (1, 3)), False)
        self.assertIs(at_most((1, 3), (1, 3)), True)

    def test_very_near_ones(self):
        many = 10 ** 40
        near, nearer = (many, many + 1), (many + 1, many + 2)
        self.assertIs(less(near, nearer), True)
        self.assertIs(less(nearer, near), False)
        self.assertIs(at_most(nearer, near), False)
        self.assertEqual(greater_one(near, nearer), nearer)
        self.assertEqual(lesser_one(near, nearer), near)


class Added(unittest.TestCase):
    def test_lists(self):
        self.assertEqual(total([]), (0, 1))
        self.assertEqual(total([(1, 3)]), (1, 3))
        self.assertEqual(total([(1, 3), (1, 6), (-1, 2)]), (0, 1))
        self.assertEqual(total([(1, 2), (1, 3), (1, 6)]), (1, 1))

    def test_the_list_stays_as_it_was(self):
        items = [(1, 2), (1, 3)]
        total(items)
        self.assertEqual(items, [(1, 2), (1, 3)])


class Chosen(unittest.TestCase):
    def test_the_greatest_one(self):
        self.assertEqual(greatest_of([]), (0, 1))
        self.assertEqual(greatest_of([(-1, 2)]), (-1, 2))
        self.assertEqual(greatest_of([(-1, 2), (-1, 3), (-2, 1)]), (-1, 3))
        self.assertEqual(greatest_of([(1, 2), (3, 5), (4, 7)]), (3, 5))

    def test_signs(self):
        self.assertEqual([with_sign(1, (2, 3)), with_sign(-1, (2, 3)), with_sign(-1, (0, 1))], [(2, 3), (-2, 3), (0, 1)])
