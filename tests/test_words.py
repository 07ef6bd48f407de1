"""What points [2] and [16] say of names and numbers, as texts and their reader share it."""

import unittest

from loopturn.errors import NoText
from loopturn.words import is_name, number_in, number_text
from samples import SIXTY_MIXED, SIXTY_NINES


class Names(unittest.TestCase):
    def test_names(self):
        for text in ("a", "z", "i", "ab", "abcdefgh", "zzzzzzzz", "loops", "loo", "fro", "t", "too", "en", "ends"):
            self.assertIs(is_name(text), True, text)

    def test_the_four_words(self):
        for text in ("loop", "from", "to", "end"):
            self.assertIs(is_name(text), False, text)

    def test_no_names(self):
        for text in ("", "abcdefghi", "A", "aB", "End", "a1", "1", "a_", "a b", " a", "a ", "a\n", "\u00e4", "\u0430"):
            self.assertIs(is_name(text), False, text)

    def test_each_sign(self):
        for code in range(300):
            self.assertIs(is_name(chr(code)), ord("a") <= code <= ord("z"), code)
            self.assertIs(is_name("a" + chr(code)), ord("a") <= code <= ord("z"), code)


class Numbers(unittest.TestCase):
    def test_written_and_read(self):
        for number in (0, 1, -1, 9, 10, -10, 100, 10 ** 59, SIXTY_MIXED, -SIXTY_MIXED, SIXTY_NINES, -SIXTY_NINES):
            text = number_text(number)
            self.assertEqual(text, ("-" if number < 0 else "") + str(abs(number)))
            self.assertIs(type(number_in(text)), int)
            self.assertEqual(number_in(text), number)

    def test_long_ones_are_written(self):
        self.assertEqual(number_text(-10 ** 3000), "-1" + "0" * 3000)

    def test_more_than_sixty_figures(self):
        for text in ("1" + "0" * 60, "-1" + "0" * 60, "9" * 61, "0" * 61, "7" * 5000):
            self.assertRaises(NoText, number_in, text)

    def test_no_numbers(self):
        for text in (
            "", "-", "+", "+1", "-0", "00", "01", "-01", "--1", "1-", "1 ", " 1", "1\n", "1_0", "1.0", "1e3", "0x1",
            "a", "1a", "a1", "\u0663", "\u00b2", "\uff11", "- 1",
        ):
            self.assertRaises(NoText, number_in, text)


if __name__ == "__main__":
    unittest.main()
