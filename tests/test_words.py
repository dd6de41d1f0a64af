"""Names, registers, words and numbers: point [3], leastimage/words.py."""

import unittest

from leastimage.words import is_name, is_number, is_register, is_word

from common import all_odd_values


class WordsTest(unittest.TestCase):
    def test_names(self):
        for name in ("a", "z", "ab", "main", "azazaz", "string", "r", "end"):
            self.assertIs(is_name(name), True, name)

    def test_number_of_letters(self):
        self.assertIs(is_name(""), False)
        self.assertIs(is_name("a"), True)
        self.assertIs(is_name("abcdef"), True)
        self.assertIs(is_name("abcdefg"), False)
        self.assertIs(is_name("a" * 12000), False)

    def test_other_signs_are_not_in_names(self):
        for sign in "A Z ` { _ - 0 9 . \n".split(" ") + [" ", "\u00e9", "\u00df", "\u0430"]:
            for text in (sign, "a" + sign, sign + "a", "a" + sign + "a"):
                self.assertIs(is_name(text), False, text)

    def test_registers(self):
        for text in ("r0", "r1", "r2"):
            self.assertIs(is_register(text), True, text)
        for text in ("r3", "r", "r00", "R0", "0", "r-1", " r0", "r0 ", "r0\n", "", "r0r1"):
            self.assertIs(is_register(text), False, text)

    def test_words(self):
        for value in (0, 1, 255, 256, 65534, 65535):
            self.assertIs(is_word(value), True, value)
        for value in (-1, 65536, -65535, 999999999, -999999999):
            self.assertIs(is_word(value), False, value)

    def test_numbers_have_two_bounds(self):
        for value in (3, 4, 5):
            self.assertIs(is_number(value, 3, 5), True, value)
        for value in (2, 6, -3, -4):
            self.assertIs(is_number(value, 3, 5), False, value)
        self.assertIs(is_number(-128, -128, 127), True)
        self.assertIs(is_number(-129, -128, 127), False)
        self.assertIs(is_number(7, 7, 7), True)
        self.assertIs(is_number(7, 8, 7), False)

    def test_true_and_false_are_no_numbers(self):
        for value in (True, False):
            self.assertIs(is_number(value, 0, 1), False)
            self.assertIs(is_number(value, -5, 5), False)
            self.assertIs(is_word(value), False)
            self.assertIs(is_name(value), False)
            self.assertIs(is_register(value), False)

    def test_other_kinds(self):
        for value in all_odd_values():
            with self.subTest(value=value):
                self.assertIs(is_name(value), False)
                self.assertIs(is_register(value), False)
                self.assertIs(is_word(value), False)
                self.assertIs(is_number(value, 0, 9), False)
        for value in (["a"], ("a",), 5):
            self.assertIs(is_name(value), False)
        for value in (["r0"], ("r0",), 0):
            self.assertIs(is_register(value), False)
        for value in ("5", [5], (5,), 5.0, "\u0665"):
            self.assertIs(is_word(value), False)
            self.assertIs(is_number(value, 0, 9), False)

    def test_values_by_name(self):
        self.assertIs(is_name(value="a"), True)
        self.assertIs(is_register(value="r1"), True)
        self.assertIs(is_word(value=9), True)
        self.assertIs(is_number(least=0, value=5, most=9), True)


if __name__ == "__main__":
    unittest.main()
