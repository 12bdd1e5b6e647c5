import unittest
from fractions import Fraction
from math import gcd

from standfast.ratios import minus, plus, ratio, times
from standfast.roots import root_above, root_below

STEP = (1, 10 ** 6)
TINY = (1, 10 ** 60)


class Roots(unittest.TestCase):
    def test_squares_of_multiples(self):
        for n in (1, 2, 3, 999999, 10 ** 6, 1414213, 123456789, 10 ** 30 + 7):
            root = ratio(n, 10 ** 6)
            self.assertEqual(root_below(times(root, root)), root)
            self.assertEqual(root_above(times(root, root)), root)

    def test_just_beside_squares(self):
        for n in (1, 2, 3, 10 ** 6, 123456789, 10 ** 30 + 7):
            root = ratio(n, 10 ** 6)
            square = times(root, root)
            self.assertEqual(root_below(plus(square, TINY)), root)
            self.assertEqual(root_above(plus(square, TINY)), plus(root, STEP))
            self.assertEqual(root_below(minus(square, TINY)), minus(root, STEP))
            self.assertEqual(root_above(minus(square, TINY)), root)

    def test_nothing_and_less(self):
        for a in ((0, 1), (-1, 1), (-1, 10 ** 40), (-10 ** 40, 3)):
            self.assertEqual(root_below(a), (0, 1))
            self.assertEqual(root_above(a), (0, 1))

    def test_very_small_and_very_great(self):
        self.assertEqual(root_below((1, 10 ** 40)), (0, 1))
        self.assertEqual(root_above((1, 10 ** 40)), STEP)
        self.assertEqual(root_below((10 ** 80, 1)), (10 ** 40, 1))
        self.assertEqual(root_above((10 ** 80, 1)), (10 ** 40, 1))
        self.assertEqual(root_below((2, 1)), ratio(1414213, 10 ** 6))
        self.assertEqual(root_above((2, 1)), ratio(1414214, 10 ** 6))
        self.assertEqual(root_below((4, 1)), (2, 1))
        self.assertEqual(root_above((1, 4)), (1, 2))

    def test_as_the_document_determines_them(self):
        for n in range(1, 60):
            for d in (1, 3, 7, 10 ** 11, 10 ** 13 + 1):
                x = Fraction(n, d)
                below = Fraction(*root_below(ratio(n, d)))
                above = Fraction(*root_above(ratio(n, d)))
                step = Fraction(1, 10 ** 6)
                self.assertEqual((below / step).denominator, 1)
                self.assertEqual((above / step).denominator, 1)
                self.assertTrue(below * below <= x < (below + step) ** 2)
                self.assertTrue((above - step) ** 2 < x <= above * above)

    def test_in_lowest_terms(self):
        for a in ((2, 1), (1, 4), (9, 1), (1, 3)):
            for root in (root_below(a), root_above(a)):
                self.assertEqual(gcd(root[0], root[1]), 1)
