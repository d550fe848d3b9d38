"""Rows that are alike, or parted by a told world [12]."""

import itertools
import random
import unittest

from struckdeeds.effects import effect
from struckdeeds.partings import alike
from struckdeeds.worlds import is_world
from tests.helper import DEEDS, Case, behind, doable_row, rows_by_chance, worlds_over

ALIKE = ("alike",)
NEVER = (("take", "a"), ("take", "a"))

SAME = [
    ((), ()),
    ((("count", "a", 3), ("count", "a", -5)), (("count", "a", -2),)),
    ((("count", "a", 3), ("count", "b", 4)), (("count", "b", 4), ("count", "a", 3))),
    ((("move", "a", 3), ("count", "a", 4)), (("count", "a", 4), ("move", "a", 3))),
    ((("move", "a", 3), ("move", "a", 4)), (("move", "a", 4),)),
    ((("put", "a", 1, 2), ("name", "a", "b"), ("take", "b")), (("put", "b", 5, 5), ("name", "b", "a"), ("take", "a"))),
    ((("split", "a", "b", 1, 2), ("split", "a", "c", 3, 4)), (("split", "a", "c", 3, 4), ("split", "a", "b", 1, 2))),
    ((("join", "a", "b"), ("join", "a", "c")), (("join", "b", "c"), ("join", "a", "b"))),
    (NEVER, (("put", "b", 1, 1), ("put", "b", 1, 1))),
]

UNLIKE = [
    # One can be done on no world.
    ((), NEVER), ((("put", "a", 1, 1),), NEVER), ((("join", "a", "b"), ("name", "a", "c")), NEVER),
    # Other names must stand, or mustn't.
    ((), (("count", "a", 0),)), ((("take", "a"),), (("take", "b"),)), ((("put", "a", 1, 1),), (("put", "b", 1, 1),)),
    ((), (("put", "a", 1, 1), ("take", "a"))), ((("take", "a"),), (("name", "a", "b"), ("take", "b"))),
    ((("count", "a", 0),), (("count", "a", 0), ("count", "b", 0))),
    ((("count", "a", 0),), (("name", "a", "b"), ("name", "b", "a"))),
    ((("name", "a", "b"), ("name", "b", "a")), (("name", "a", "c"), ("name", "c", "a"))),
    ((("take", "a"),), (("put", "a", 1, 1),)), ((("name", "a", "b"),), (("name", "b", "a"),)),
    # Only a count.
    ((("count", "a", 3),), (("count", "a", 4),)), ((("put", "a", 1, 3),), (("put", "a", 1, 4),)),
    ((("put", "a", 1, 0),), (("put", "a", 1, -1),)), ((("count", "a", 10 ** 12),), (("count", "a", -10 ** 12),)),
    ((("split", "a", "b", 1, 3),), (("split", "a", "b", 1, 4),)),
    # Only a place.
    ((("put", "a", 1, 3),), (("put", "a", 0, 3),)), ((("move", "a", 0),), (("count", "a", 0),)),
    ((("move", "a", 1),), (("count", "a", 0),)), ((("move", "a", 999),), (("count", "a", 0),)),
    ((("split", "a", "b", 1, 3),), (("split", "a", "b", 999, 3),)),
    # A name that comes again.
    ((("take", "a"), ("put", "a", 0, 0)), (("count", "a", 0),)), ((("take", "a"), ("put", "a", 1, 1)), (("take", "a"),)),
    ((("name", "a", "c"), ("name", "b", "a"), ("name", "c", "b")), (("count", "a", 0), ("count", "b", 0))),
    # Whose counts come together, and whose place it is.
    ((("join", "a", "b"),), (("take", "b"), ("count", "a", 0))),
    ((("join", "a", "b"),), (("take", "b"), ("count", "a", 1))),
    ((("join", "a", "b"),), (("join", "b", "a"),)),
    ((("join", "a", "b"), ("name", "a", "c")), (("join", "b", "a"), ("name", "b", "c"))),
    ((("join", "a", "b"), ("take", "c")), (("join", "a", "c"), ("take", "b"))),
    # Neighbours exchanged.
    ((("move", "a", 3), ("move", "a", 4)), (("move", "a", 4), ("move", "a", 3))),
    ((("count", "b", 3), ("join", "a", "b"), ("split", "a", "b", 1, 0)),
     (("join", "a", "b"), ("split", "a", "b", 1, 0), ("count", "b", 3))),
    ((("count", "a", 1), ("name", "a", "b")), (("name", "a", "b"), ("count", "a", 1))),
]


class AlikeTest(Case):

    def check(self, row, other):
        """What is told, either way about: alike just where the effects are the same, else a world that parts."""
        for one, two in ((row, other), (other, row)):
            told = self.asked(alike, one, two)
            if effect(one) == effect(two):
                self.assertVery(told, ALIKE)
                continue
            self.assertEqual((type(told), len(told), told[0]), (tuple, 2, "parted"))
            self.assertTrue(is_world(told[1]))
            self.assertNotEqual(behind(told[1], one), behind(told[1], two))
        return told

    def test_alike_rows(self):
        for row, other in SAME:
            with self.subTest(row=row, other=other):
                self.assertVery(self.check(row, other), ALIKE)

    def test_parted_rows(self):
        for row, other in UNLIKE:
            with self.subTest(row=row, other=other):
                self.assertEqual(self.check(row, other)[0], "parted")

    def test_a_row_is_alike_to_itself(self):
        for row in rows_by_chance(11, 300, 6):
            self.assertVery(alike(row, row), ALIKE)

    def test_each_two_deeds(self):
        for one, two in itertools.combinations_with_replacement(DEEDS + [("move", "a", 0), ("count", "b", 0)], 2):
            self.check((one,), (two,))
            self.check((one, two), (two, one))
            self.check((one,), (one, two))

    def test_alike_rows_come_to_the_same_on_every_world(self):
        worlds = worlds_over("abc") + worlds_over("abc", 101, 2000000)
        rows = [()] + [(deed,) for deed in DEEDS] + rows_by_chance(12, 1500, 4)
        by_ends = {}
        for row in rows:
            by_ends.setdefault(tuple(behind(world, row) for world in worlds), []).append(row)
        for same in by_ends.values():
            for row in same:
                self.assertVery(alike(same[0], row), ALIKE)
        firsts = [same[0] for same in by_ends.values()]
        for row, other in zip(firsts, firsts[1:]):
            self.assertEqual(self.check(row, other)[0], "parted")

    def test_long_rows(self):
        chance = random.Random(13)
        for turn in range(60):
            row = doable_row(chance, chance.choice(worlds_over("abc")), 40)
            at = chance.randrange(40)
            self.check(row, row[:at] + row[at + 1:])
            self.check(row, row[:at] + (chance.choice(DEEDS),) + row[at:])
            self.check(row, row[:at][::-1] + row[at:])

    def test_rows_of_many_names(self):
        names = [one + other for one in "abcdefgh" for other in "vwxyz"]
        row = tuple(("join", "a", name) for name in names)
        self.assertVery(self.check(row, row[::-1]), ALIKE)
        self.check(row, row[:-1] + (("take", names[-1]), ))
        self.check(row, row[:-1])


if __name__ == "__main__":
    unittest.main()
