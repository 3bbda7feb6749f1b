import random
import unittest

from oracle import BIG
from wavyrow.errors import NoText
from wavyrow.texts import read_row, row_text

TEXTS = (
    ([], "none"),
    ([0], "0"),
    ([7], "7"),
    ([-7], "-7"),
    ([10], "10"),
    ([-100], "-100"),
    ([0, 0, 0], "0 0 0"),
    ([3, -1, 4, 0, 15], "3 -1 4 0 15"),
    ([BIG], "9" * 30),
    ([-BIG], "-" + "9" * 30),
    ([10 ** 29], "1" + "0" * 29),
    ([-BIG, 0, BIG, -1], "-" + "9" * 30 + " 0 " + "9" * 30 + " -1"),
)

NO_NUMBERS = (
    "00", "01", "007", "-0", "-00", "-01", "--1", "1-", "1-2", "- 1", "-", "+1", "+0", "1_0", "_1", "1_",
    "9" * 31, "-" + "9" * 31, "1" + "0" * 30, "0" * 30, "0" * 31, "1" * 10000,
    "\u0663", "\u00b2", "\uff11", "1\u0662", "\u2460", "\u0967\u0968", "-\u0663", "\u22121",
    "1.0", "1,2", "1;2", "1/2", "1e3", "0x1", "0b1", "a", "x1", "1x", "N", "~", "!", "#", "(1)", "[1]", "'1'",
    "None", "NONE", "none.", "nones", "non", "True", "False", "up",
    "1\n", "\n1", "1\n2", "\n", "1\t", "\t1", "1\t2", "\t", "1\r", "1\u00a02", "1\x0b2", "1\x002",
)


class RowText(unittest.TestCase):
    """Point 22."""

    def test_texts(self):
        for row, text in TEXTS:
            told = row_text(row)
            self.assertIs(type(told), str)
            self.assertEqual(told, text)

    def test_three_hundred_numbers(self):
        self.assertEqual(row_text([0] * 300), "0" + " 0" * 299)
        told = row_text([-BIG] * 300)
        self.assertEqual(told, " ".join(["-" + "9" * 30] * 300))
        self.assertLess(len(told), 10000)


class ReadRow(unittest.TestCase):
    """Point 22."""

    def test_texts(self):
        for row, text in TEXTS:
            told = read_row(text)
            self.assertIs(type(told), list)
            self.assertEqual(told, row)
            self.assertTrue(all(type(number) is int for number in told))

    def test_read_back(self):
        source = random.Random(61)
        for many in (0, 1, 2, 17, 300):
            for figures in (1, 2, 6, 29, 30):
                row = [source.randrange(1 - 10 ** figures, 10 ** figures) for k in range(many)]
                told = read_row(row_text(row))
                self.assertEqual(told, row)
                self.assertIsNot(told, row)

    def test_no_numbers(self):
        for word in NO_NUMBERS:
            for text in (word, "5 " + word, word + " 5", "5 " + word + " 5"):
                with self.subTest(text=text[:50]):
                    with self.assertRaises(NoText):
                        read_row(text)

    def test_blanks(self):
        for text in ("", " ", "  ", " 1", "1 ", "1  2", " 1 2", "1 2 ", " none", "none ", "1 2   3"):
            with self.subTest(text=text):
                with self.assertRaises(NoText):
                    read_row(text)

    def test_none_with_more(self):
        for text in ("none 1", "1 none", "none none", "none\n", "\nnone", "-none", "none0"):
            with self.subTest(text=text):
                with self.assertRaises(NoText):
                    read_row(text)

    def test_just_thirty_figures(self):
        self.assertEqual(read_row("1" * 30 + " -" + "1" * 30), [int("1" * 30), -int("1" * 30)])
        for text in ("1" * 31, "-" + "1" * 31):
            with self.assertRaises(NoText):
                read_row(text)

    def test_what_is_told_of_more_figures_is_a_text_but_is_not_read(self):
        text = row_text([BIG + 1])
        self.assertEqual(text, "1" + "0" * 30)
        with self.assertRaises(NoText):
            read_row(text)


class TheAskersOwn(unittest.TestCase):
    """Point 2."""

    def test_row_is_as_it_was(self):
        for row in ([], [3, -1, 0]):
            before = list(row)
            told = row_text(row)
            self.assertEqual(row, before)
            row.append(99)
            self.assertEqual(told, row_text(before))

    def test_told_lists_are_new(self):
        for text in ("none", "0", "3 -1 0"):
            told = read_row(text)
            due = list(told)
            told.append(99)
            self.assertEqual(read_row(text), due)
            self.assertEqual(told, due + [99])


if __name__ == "__main__":
    unittest.main()
