"""Whole numbers, names and places [2, 4]."""

import unittest

from struckdeeds.words import is_name, is_place, is_whole
from tests.helper import ODD_THINGS, Case

LETTERS = "abcdefghijklmnopqrstuvwxyz"


class WordsTest(Case):

    def test_whole_numbers(self):
        for thing in (0, 1, -1, 999, 10 ** 12, -10 ** 12, 10 ** 5000):
            self.assertIs(is_whole(thing), True)
        for thing in ODD_THINGS + ["1", "0", (1,), [1], {1: 1}]:
            with self.subTest(thing=thing):
                self.assertIs(is_whole(thing), False)

    def test_names(self):
        for thing in list(LETTERS) + ["ab", "put", "take", "none", "abcdefgh", "zzzzzzzz"]:
            self.assertIs(is_name(thing), True)
        for thing in ODD_THINGS + ["abcdefghi", "A", "aB", "Abc", "a1", "a_", "a-b", "a@", "a:", "a,", " a", "a ",
                                   "a\n", "\na", "`", "{", "ab`", "\u00e9", "a\u00e9", "\u00df", "\u0131", "\uff41",
                                   "\u0430", 0, 5, ("a",), ["a"], {"a": "a"}, "a" * 4000, tuple("abc"), b"abc"]:
            with self.subTest(thing=thing):
                self.assertIs(is_name(thing), False)

    def test_places(self):
        for thing in range(1000):
            self.assertIs(is_place(thing), True)
        for thing in ODD_THINGS + [-1, 1000, -999, 10 ** 12, -10 ** 12, "0", "5", (0,), [0], {0: 0}]:
            with self.subTest(thing=thing):
                self.assertIs(is_place(thing), False)


if __name__ == "__main__":
    unittest.main()
