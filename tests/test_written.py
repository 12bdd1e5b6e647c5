import unittest

from standfast.errors import InvalidRatio
from standfast.written import read_number, read_ratio, write_number, write_ratio

LONG = 123456789 * 10 ** 391 + 7


class Ratios(unittest.TestCase):
    def test_written_form(self):
        for a, text in (
            ((0, 1), "0"), ((7, 1), "7"), ((-7, 1), "-7"), ((1, 2), "1/2"), ((-1, 2), "-1/2"),
            ((100, 1), "100"), ((-10, 3), "-10/3"), ((10 ** 64, 1), "1" + "0" * 64),
            ((1, 10 ** 64 + 1), "1/1" + "0" * 63 + "1"),
        ):
            with self.subTest(text):
                self.assertEqual(write_ratio(a), text)
                self.assertEqual(read_ratio(text), a)

    def test_long_numbers_are_read_back(self):
        for a in ((LONG, 1), (-LONG, 2), (3, LONG), (LONG + 1, LONG)):
            self.assertEqual(write_ratio(a), str(a[0]) + ("" if a[1] == 1 else "/" + str(a[1])))
            self.assertEqual(read_ratio(write_ratio(a)), a)

    def test_numbers_somewhat_beyond_the_limit_raise_no_error(self):
        long = 7
        for _ in range(4500):
            long = long * 10 + 3
        text = write_ratio((-long, 10))
        self.assertEqual(text, "-7" + "3" * 4500 + "/10")
        self.assertEqual(read_ratio(text), (-long, 10))

    def test_other_texts(self):
        for text in (
            "", " ", "-", "/", "-/", "/2", "1/", "-/2", "--1", "+1", "1-", "1/-2", "-1/-2", "1/+2", "-0", "00", "01",
            "-01", "0/1", "0/2", "-0/2", "1/1", "-7/1", "1/0", "0/0", "2/4", "-3/3", "4/2", "1/02", "01/2", "1/00",
            " 1", "1 ", "1 /2", "1/ 2", "- 1", "1\n", "\n1", "1/2\n", "1.0", "1.5", "1,5", "1/2/3", "1//2", "a", "1a",
            "0x1", "1_000", "1e3", "one", "1/2a", "3/6",
        ):
            with self.subTest(repr(text)), self.assertRaises(InvalidRatio):
                read_ratio(text)


class Numbers(unittest.TestCase):
    def test_whole_numbers(self):
        for word, a in (("0", (0, 1)), ("-0", (0, 1)), ("7", (7, 1)), ("-7", (-7, 1)), ("100", (100, 1)),
                        (str(LONG), (LONG, 1))):
            with self.subTest(word):
                self.assertEqual(read_number(word), a)

    def test_decimal_numbers(self):
        for word, a in (
            ("0.5", (1, 2)), ("-0.5", (-1, 2)), ("1.50", (3, 2)), ("0.0", (0, 1)), ("-0.0", (0, 1)), ("3.000", (3, 1)),
            ("12.25", (49, 4)), ("-12.25", (-49, 4)), ("1.05", (21, 20)), ("0.000000001", (1, 10 ** 9)),
            ("1.123456789", (1123456789, 10 ** 9)), ("10.000000000", (10, 1)),
        ):
            with self.subTest(word):
                self.assertEqual(read_number(word), a)

    def test_fractions(self):
        for word, a in (("1/2", (1, 2)), ("-1/2", (-1, 2)), ("2/4", (1, 2)), ("0/5", (0, 1)), ("-0/5", (0, 1)),
                        ("7/1", (7, 1)), ("-10/4", (-5, 2)), ("1/300", (1, 300))):
            with self.subTest(word):
                self.assertEqual(read_number(word), a)

    def test_no_numbers(self):
        for word in (
            "", "-", "--1", "+1", "00", "01", "-01", "1.", ".5", "-.5", "1.1234567890", "0.0000000000", "01.5", "00.5",
            "1.2.3", "1..2", "1.-2", "1.+2", "1/0", "0/0", "1/00", "1/02", "01/2", "1/", "/2", "/", "1/-2", "-1/-2",
            "1/2/3", "1.5/2", "1/2.5", "1e5", "x", "1x", "x1", "1,5", "1_0", "0x10", "1 ", " 1", "- 1", ".", "-.",
            "1.5-", "1.x", "1.5x",
        ):
            with self.subTest(repr(word)):
                self.assertIsNone(read_number(word))


class NumbersWritten(unittest.TestCase):
    def test_denominators_that_divide(self):
        for a, word in (
            ((0, 1), "0"), ((5, 1), "5"), ((-5, 1), "-5"), ((1, 2), "0.5"), ((-1, 2), "-0.5"), ((3, 2), "1.5"),
            ((-49, 4), "-12.25"), ((21, 20), "1.05"), ((1, 8), "0.125"), ((1, 10 ** 9), "0.000000001"),
            ((-1, 10 ** 9), "-0.000000001"), ((10 ** 9 + 1, 10 ** 9), "1.000000001"), ((1, 2 ** 9), "0.001953125"),
            ((1, 5 ** 9), "0.000000512"), ((100, 1), "100"), ((1001, 10), "100.1"), ((LONG, 10), f"{LONG // 10}.7"),
        ):
            with self.subTest(word):
                self.assertEqual(write_number(a), word)
                self.assertEqual(read_number(word), a)

    def test_other_denominators(self):
        for a, word in (
            ((1, 3), "1/3"), ((-1, 3), "-1/3"), ((5, 6), "5/6"), ((1, 2 ** 10), "1/1024"), ((1, 10 ** 10),
            "1/10000000000"), ((-7, 30), "-7/30"), ((1, 5 ** 10), "1/9765625"), ((LONG, 3), f"{LONG}/3"),
        ):
            with self.subTest(word):
                self.assertEqual(write_number(a), word)
                self.assertEqual(read_number(word), a)
