import copy
import random
import unittest

import oracle
from standfast.programs.conditions import just, least, meets, most
from standfast.programs.projection import can_be_met, refutation
from standfast.ratios import ZERO, less, ratio, times, total


def whole(*numbers):
    return tuple(ratio(n) for n in numbers)


def some_conditions(seed, rounds, unknowns):
    """Small systems, with equations among them."""
    chance = random.Random(seed)

    def number():
        return ratio(chance.choice((0, 0, 1, -1, 2, -3, 4)), chance.choice((1, 1, 2, 3)))

    for _ in range(rounds):
        many = chance.randint(0, 7)
        yield [(tuple(number() for _ in range(unknowns)), number(), chance.random() < 0.25) for _ in range(many)]


class Conditions(unittest.TestCase):
    def test_their_triples(self):
        self.assertEqual(most([(1, 2), (0, 1)], (3, 1)), (((1, 2), (0, 1)), (3, 1), False))
        self.assertEqual(least([(1, 2), (0, 1)], (3, 1)), (((-1, 2), (0, 1)), (-3, 1), False))
        self.assertEqual(just([(1, 2), (0, 1)], (-3, 1)), (((1, 2), (0, 1)), (-3, 1), True))
        self.assertEqual(most((), (1, 1)), ((), (1, 1), False))

    def test_lists_and_tuples_of_numbers(self):
        for make in (most, least, just):
            numbers = [(1, 2), (-1, 3)]
            made = make(numbers, (1, 1))
            self.assertEqual(made, make(tuple(numbers), (1, 1)))
            self.assertIs(type(made[0]), tuple)
            self.assertEqual(numbers, [(1, 2), (-1, 3)])
            numbers.append((5, 1))
            self.assertEqual(len(made[0]), 2)

    def test_met_or_not(self):
        values = whole(1, 2)
        for conditions, met in (
            ([], True),
            ([most(whole(1, 1), (3, 1))], True), ([most(whole(1, 1), (29, 10))], False),
            ([least(whole(1, 1), (3, 1))], True), ([least(whole(1, 1), (31, 10))], False),
            ([just(whole(1, 1), (3, 1))], True), ([just(whole(1, 1), (4, 1))], False),
            ([just(whole(1, 1), (2, 1))], False),
            ([most(whole(1, 1), (3, 1)), most(whole(1, 0), (0, 1))], False),
            ([most(whole(1, 0), (0, 1)), most(whole(1, 1), (3, 1))], False),
        ):
            self.assertIs(meets(values, conditions), met)
        self.assertIs(meets((), [most((), (0, 1))]), True)
        self.assertIs(meets((), [most((), (-1, 1))]), False)


class Refutations(unittest.TestCase):
    def check(self, conditions, unknowns):
        """The refutation refutes, or there are values: the oracle tells which."""
        before = copy.deepcopy(conditions)
        met = can_be_met(conditions, unknowns)
        found = refutation(conditions, unknowns)
        self.assertEqual(conditions, before)
        self.assertIs(met, oracle.nearest(conditions, unknowns) is not None)
        self.assertEqual(met, found is None)
        if found is None:
            return met
        self.assertIs(type(found), tuple)
        self.assertEqual(len(found), len(conditions))
        for unknown in range(unknowns):
            self.assertEqual(total([times(a, c[0][unknown]) for a, c in zip(found, conditions)]), ZERO)
        self.assertEqual(total([times(a, c[1]) for a, c in zip(found, conditions)]), (-1, 1))
        self.assertFalse(any(less(a, ZERO) and not c[2] for a, c in zip(found, conditions)))
        return met

    def test_by_hand(self):
        self.assertTrue(self.check([], 2))
        self.assertTrue(self.check([], 0))
        self.assertTrue(self.check([most((), (0, 1))], 0))
        self.assertFalse(self.check([most((), (0, 1)), most((), (-1, 3))], 0))
        self.assertFalse(self.check([just((), (5, 1))], 0))
        self.assertFalse(self.check([just(whole(0), (-5, 1))], 1))
        self.assertTrue(self.check([most(whole(1), (1, 1)), least(whole(1), (1, 1))], 1))
        self.assertFalse(self.check([most(whole(1), (1, 1)), least(whole(1), (1000001, 1000000))], 1))
        self.assertFalse(self.check([just(whole(1, 1), (1, 1)), just(whole(2, 2), (3, 1))], 2))
        self.assertTrue(self.check([just(whole(1, 1), (1, 1)), just(whole(2, 2), (2, 1))], 2))
        self.assertFalse(self.check([just(whole(1, 1), (5, 1)), most(whole(1, 0), (2, 1)),
                                     most(whole(0, 1), (2, 1))], 2))
        self.assertTrue(self.check([just(whole(1, 1), (4, 1)), most(whole(1, 0), (2, 1)),
                                    most(whole(0, 1), (2, 1))], 2))

    def test_many(self):
        for unknowns in (0, 1, 2, 3):
            answers = [self.check(conditions, unknowns) for conditions in some_conditions(unknowns, 400, unknowns)]
            self.assertTrue(30 < sum(answers) < 390)

    def test_long_numbers(self):
        a, b = ratio(10 ** 40 + 1, 10 ** 39), ratio(10 ** 40 + 3, 7)
        self.assertFalse(self.check([most((a, b), (1, 3)), least((times(a, (2, 1)), times(b, (2, 1))), (7, 10))], 2))
        self.assertTrue(self.check([most((a, b), (1, 3)), least((times(a, (2, 1)), times(b, (2, 1))), (2, 3))], 2))
