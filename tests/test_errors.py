import unittest

from standfast import errors

NAMES = (
    "InvalidRatio InvalidFrame FrameHasProblems InvalidEdit InvalidPaper InvalidLoss InvalidCase InvalidFactors "
    "InvalidShares TrialEnded InvalidLists InvalidChoice InvalidTree NothingToUndo"
).split()


class Errors(unittest.TestCase):
    def test_the_base_class_is_a_value_error(self):
        self.assertEqual(errors.StandfastError.__bases__, (ValueError,))

    def test_all_derive_from_the_base_class(self):
        for name in NAMES:
            with self.subTest(name):
                self.assertEqual(getattr(errors, name).__bases__, (errors.StandfastError,))

    def test_they_are_different_classes(self):
        self.assertEqual(len({getattr(errors, name) for name in NAMES}), 14)

    def test_they_are_raised_and_caught_by_the_base_class(self):
        for name in NAMES:
            with self.subTest(name), self.assertRaises(errors.StandfastError):
                raise getattr(errors, name)("words")
