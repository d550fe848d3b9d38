"""Things and worlds [4]."""

import unittest

from struckdeeds.worlds import is_world, thing_of
from tests.helper import ODD_THINGS, Case

TWELVE = tuple((name, place * 90, place - 6) for place, name in enumerate("abcdefghijkl"))


class IsWorldTest(Case):

    def test_worlds(self):
        for thing in ((), (("a", 0, 0),), (("abcdefgh", 999, -10 ** 12),), TWELVE, TWELVE + (("m", 1, 1),),
                      (("a", 1, 1), ("aa", 1, 1), ("b", 1, 1)), (("a", 1, 10 ** 12), ("b", 1, 10 ** 12))):
            with self.subTest(thing=thing):
                self.assertIs(is_world(thing), True)

    def test_things_of_any_other_kind(self):
        for thing in ODD_THINGS + ["a@1:1", 0, 7, ("a", 1, 1), [("a", 1, 1)], {"a": (1, 1)}]:
            with self.subTest(thing=thing):
                self.assertIs(is_world(thing), False)

    def test_one_wrong_thing_anywhere(self):
        wrong = [["k", 1, 1], ("k", 1), ("k",), ("k", 1, 1, 1), (), None, "k11", {"k": 1}, ("K", 1, 1), ("", 1, 1),
                 ("kkkkkkkkk", 1, 1), (1, 1, 1), (None, 1, 1), (("k",), 1, 1), ("k", -1, 1), ("k", 1000, 1),
                 ("k", True, 1), ("k", "1", 1), ("k", None, 1), ("k", (1,), 1), ("k", [1], 1), ("k", 1, True),
                 ("k", 1, False), ("k", 1, "1"), ("k", 1, None), ("k", 1, (1,)), ("k", 1, [1]), (True, 1, 1),
                 (["k"], 1, 1), (1, "k", 1), ("k", 1, {})]
        for thing in wrong:
            for world in ((thing,), (thing, ("l", 1, 1)), (("a", 1, 1), thing), (("a", 1, 1), thing, ("l", 1, 1))):
                with self.subTest(world=world):
                    self.assertIs(is_world(world), False)

    def test_names_must_rise(self):
        for names in ("aa", "ba", "abb", "aab", "acb", "bac", "abca", "abdc"):
            with self.subTest(names):
                self.assertIs(is_world(tuple((name, 1, 1) for name in names)), False)
        self.assertIs(is_world((("aa", 1, 1), ("a", 1, 1))), False)
        self.assertIs(is_world((("a", 1, 1), ("a", 2, 2))), False)
        self.assertIs(is_world(TWELVE[:5] + TWELVE[4:]), False)


class ThingOfTest(Case):

    def test_names_that_stand(self):
        for thing in TWELVE:
            self.assertVery(thing_of(TWELVE, thing[0]), thing)
        self.assertVery(thing_of((("a", 0, 0), ("aa", 5, -5)), "aa"), ("aa", 5, -5))

    def test_names_that_do_not_stand(self):
        for name in ("m", "z", "aa", "abc"):
            self.assertIsNone(thing_of(TWELVE, name))
        self.assertIsNone(thing_of((), "a"))
        self.assertIsNone(thing_of((("b", 1, 1),), "a"))


if __name__ == "__main__":
    unittest.main()
