"""Texts of worlds [5]."""

import random
import unittest

from struckdeeds.errors import NoText
from struckdeeds.worlds import is_world
from struckdeeds.worldtexts import read_world, show_world
from tests.helper import ODD_THINGS, Case

PAIRS = [
    ((), "-"),
    ((("a", 0, 0),), "a@0:0"),
    ((("abcdefgh", 999, -1),), "abcdefgh@999:-1"),
    ((("a", 10, 10 ** 12), ("b", 100, -10 ** 12)), "a@10:1000000000000, b@100:-1000000000000"),
    ((("a", 1, 10), ("aa", 20, -20), ("b", 5, 100)), "a@1:10, aa@20:-20, b@5:100"),
    ((("a", 1, 10 ** 18), ("b", 1, 10 ** 18 - 1), ("c", 1, -10 ** 36 - 7)),
     "a@1:1" + "0" * 18 + ", b@1:" + "9" * 18 + ", c@1:-1" + "0" * 35 + "7"),
]


class BothWaysTest(Case):

    def test_written_and_read(self):
        for world, text in PAIRS:
            with self.subTest(text):
                self.assertVery(show_world(world), text)
                self.assertVery(read_world(text), world)

    def test_read_from_what_was_written(self):
        chance = random.Random(5)
        for turn in range(300):
            names = sorted({chance.choice("abc") + chance.choice(["", "a", "b", "zz"]) for step in range(turn % 13)})
            world = tuple((name, chance.randrange(1000), chance.randrange(-10 ** chance.randrange(13), 10 ** 12))
                          for name in names)
            self.assertVery(read_world(show_world(world)), world)

    def test_very_long_numbers(self):
        for length in (3900, 4290, 4500):
            text = "a@7:-" + "12345678" * (length // 8)
            world = read_world(text)
            self.assertIs(is_world(world), True)
            self.assertEqual(world[0][2] % 10 ** 8, 10 ** 8 - 12345678)
            self.assertEqual(show_world(world), text)


class RefusedTest(Case):

    def part(self, text):
        return self.refused(NoText, read_world, text).part

    def test_no_text(self):
        for thing in ODD_THINGS + [0, 5, (), (("a", 1, 1),), ["a@1:1"], b"-", b"a@1:1"]:
            if not isinstance(thing, str):
                with self.subTest(thing=thing):
                    self.assertIsNone(self.part(thing))

    def test_a_part_that_is_no_thing(self):
        wrong = ["", " ", "-", "k", "k@", "k@1", "k@1:", "@1:1", "k@:1", "k1:1", "k:1@1", "k@1@1", "k@1:1:1", "k@@1:1",
                 "k@1::1", "k@01:1", "k@00:1", "k@-0:1", "k@+1:1", "k@-1:1", "k@1000:1", "k@1:01", "k@1:00",
                 "k@1:-0", "k@1:+1", "k@1:-01", "k@1:--1", "k@1:-", "k@1:1-", "k@1:1.0", "k@1:1_0", "k@1:0x1", "k@1:a",
                 " k@1:1", "k@1:1 ", "k @1:1", "k@ 1:1", "k@1 :1", "k@1: 1", "k@1:- 1", "k@1:1\n", "\nk@1:1",
                 "K@1:1", "kkkkkkkkk@1:1", "k2@1:1", "k@1:1,", ",k@1:1", "k@1:1;", "k@1:\u0661", "k@\u00b2:1",
                 "k@\uff11:1", "k@1:\u00b2", "(k@1:1)", "k@1:1,l@1:1"]
        for text in wrong:
            with self.subTest(text):
                if text != "-":
                    self.assertVery(self.part(text), 0)
                self.assertVery(self.part(text + ", l@1:1"), 0)
                self.assertVery(self.part("a@1:1, " + text), 1)
                self.assertVery(self.part("a@1:1, b@2:2, " + text + ", l@1:1"), 2)
                self.assertVery(self.part("a@1:1, b@2:2, c@3:3, " + text), 3)

    def test_blanks_between(self):
        self.assertVery(self.part("a@1:1,b@1:1"), 0)
        self.assertVery(self.part("a@1:1 b@1:1"), 0)
        self.assertVery(self.part("a@1:1 , b@1:1"), 0)
        self.assertVery(self.part("a@1:1,  b@1:1"), 1)
        self.assertVery(self.part("a@1:1, b@1:1, "), 2)
        self.assertVery(self.part("a@1:1, , b@1:1"), 1)
        self.assertVery(self.part(", a@1:1"), 0)
        self.assertVery(self.part("- "), 0)
        self.assertVery(self.part(" -"), 0)
        self.assertVery(self.part("--"), 0)
        self.assertVery(self.part("-\n"), 0)

    def test_names_that_do_not_rise(self):
        for names, part in (("aa", 1), ("ba", 1), ("abb", 2), ("aba", 2), ("abcb", 3), ("bac", 1), ("bcad", 2)):
            with self.subTest(names):
                self.assertVery(self.part(", ".join(f"{name}@1:1" for name in names)), part)
        self.assertVery(self.part("aa@1:1, a@1:1"), 1)

    def test_the_first_wrong_part_is_told(self):
        self.assertVery(self.part("b@1:1, a@1:1, X"), 1)
        self.assertVery(self.part("b@1:1, X, a@1:1"), 1)
        self.assertVery(self.part("X, b@1:1, a@1:1"), 0)
        self.assertVery(self.part("X, Y"), 0)
        self.assertVery(self.part("b@1:01, a@1:1"), 0)


if __name__ == "__main__":
    unittest.main()
