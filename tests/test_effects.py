"""Effects of rows, and effects one behind the other [10, 11]."""

import itertools
import random
import unittest

from struckdeeds.effects import effect, effect_behind
from struckdeeds.errors import NoRow
from struckdeeds.rows import gone
from tests.helper import DEEDS, Case, rows_by_chance, worlds_over

NOTHING = ((), (), ())

ALONE = [
    (("put", "x", 5, -7), ((), ("x",), (("x", 5, (), -7),))),
    (("take", "x"), (("x",), (), ())),
    (("move", "x", 0), (("x",), (), (("x", 0, ("x",), 0),))),
    (("count", "x", -7), (("x",), (), (("x", "x", ("x",), -7),))),
    (("count", "x", 0), (("x",), (), (("x", "x", ("x",), 0),))),
    (("name", "x", "y"), (("x",), ("y",), (("y", "x", ("x",), 0),))),
    (("name", "y", "x"), (("y",), ("x",), (("x", "y", ("y",), 0),))),
    (("split", "x", "y", 5, 7), (("x",), ("y",), (("x", "x", ("x",), -7), ("y", 5, (), 7)))),
    (("split", "y", "x", 5, 7), (("y",), ("x",), (("x", 5, (), 7), ("y", "y", ("y",), -7)))),
    (("join", "x", "y"), (("x", "y"), (), (("x", "x", ("x", "y"), 0),))),
    (("join", "y", "x"), (("x", "y"), (), (("y", "y", ("x", "y"), 0),))),
]

ROWS = [
    ((), NOTHING),
    # Made and ended.
    ((("put", "x", 1, 1), ("take", "x")), ((), ("x",), ())),
    ((("take", "x"), ("put", "x", 1, 2)), (("x",), (), (("x", 1, (), 2),))),
    ((("put", "x", 1, 1), ("take", "x"), ("put", "x", 3, 4)), ((), ("x",), (("x", 3, (), 4),))),
    # Named anew, and back again.
    ((("name", "x", "y"), ("name", "y", "x")), (("x",), ("y",), (("x", "x", ("x",), 0),))),
    ((("name", "x", "z"), ("name", "y", "x"), ("name", "z", "y")),
     (("x", "y"), ("z",), (("x", "y", ("y",), 0), ("y", "x", ("x",), 0)))),
    ((("name", "y", "a"), ("move", "a", 4), ("count", "a", 5)), (("y",), ("a",), (("a", 4, ("y",), 5),))),
    # Split and joined.
    ((("split", "x", "y", 5, 7), ("join", "x", "y")), (("x",), ("y",), (("x", "x", ("x",), 0),))),
    ((("join", "x", "y"), ("split", "x", "y", 5, 7)),
     (("x", "y"), (), (("x", "x", ("x", "y"), -7), ("y", 5, (), 7)))),
    ((("split", "x", "y", 5, 7), ("join", "y", "x")), (("x",), ("y",), (("y", 5, ("x",), 0),))),
    ((("join", "c", "b"), ("join", "c", "a"), ("join", "d", "c")),
     (("a", "b", "c", "d"), (), (("d", "d", ("a", "b", "c", "d"), 0),))),
    ((("count", "b", 3), ("join", "c", "b"), ("count", "c", 4), ("name", "c", "a"), ("put", "c", 8, 9)),
     (("b", "c"), ("a",), (("a", "c", ("b", "c"), 7), ("c", 8, (), 9)))),
    # What it only asks for stays told.
    ((("count", "x", 5), ("count", "x", -5)), (("x",), (), (("x", "x", ("x",), 0),))),
    ((("move", "y", 1), ("move", "x", 2), ("take", "y")), (("x", "y"), (), (("x", 2, ("x",), 0),))),
    # On no world.
    ((("put", "x", 1, 1), ("put", "x", 1, 1)), None),
    ((("take", "x"), ("move", "x", 1)), None),
    ((("take", "x"), ("take", "x")), None),
    ((("count", "x", 1), ("put", "x", 1, 1)), None),
    ((("name", "x", "y"), ("count", "x", 1)), None),
    ((("name", "x", "y"), ("name", "z", "y")), None),
    ((("split", "x", "y", 1, 1), ("put", "y", 1, 1)), None),
    ((("join", "x", "y"), ("join", "x", "y")), None),
    ((("join", "x", "y"), ("move", "z", 1), ("take", "y"), ("put", "y", 1, 1)), None),
]


class EffectTest(Case):

    def test_each_kind_alone(self):
        for deed, told in ALONE:
            with self.subTest(deed=deed):
                self.assertVery(effect((deed,)), told)

    def test_rows(self):
        for row, told in ROWS:
            with self.subTest(row=row):
                self.assertVery(effect(row), told)

    def test_large_numbers_and_long_rows(self):
        row = (("count", "x", 10 ** 12),) * 40
        self.assertVery(effect(row), (("x",), (), (("x", "x", ("x",), 40 * 10 ** 12),)))
        row = (("put", "x", 1, 1), ("take", "x")) * 20
        self.assertVery(effect(row), ((), ("x",), ()))

    def told_world(self, told, world):
        """The world that an effect tells behind this one, on which the row can be done."""
        stand, free, left = told
        at_first = {thing[0]: thing for thing in world}
        things = [thing for thing in world if thing[0] not in stand + free]
        for name, place, froms, plus in left:
            self.assertIn(name, stand + free)
            if isinstance(place, str):
                self.assertIn(place, stand)
                place = at_first[place][1]
            self.assertVery(froms, tuple(sorted(set(froms))))
            things.append((name, place, plus + sum(at_first[come][2] for come in froms)))
        return tuple(sorted(things))

    def check_row(self, row):
        """The effect against the row done on every world of these names."""
        told = effect(row)
        doable = False
        for world in worlds_over("abc") + worlds_over("abc", 101, 2000000):
            names = [thing[0] for thing in world]
            try:
                behind = gone(world, row)
            except NoRow:
                if told is not None:
                    self.assertFalse(all(name in names for name in told[0])
                                     and all(name not in names for name in told[1]))
                continue
            doable = True
            self.assertTrue(all(name in names for name in told[0]) and all(name not in names for name in told[1]))
            self.assertVery(self.told_world(told, world), behind)
        self.assertEqual(doable, told is not None)
        if told is not None:
            for part in (told[0], told[1], tuple(row[0] for row in told[2])):
                self.assertVery(part, tuple(sorted(set(part))))

    def test_what_is_told_by_doing_short_rows(self):
        for length in (0, 1, 2):
            for row in itertools.product(DEEDS, repeat=length):
                self.check_row(row)

    def test_what_is_told_by_doing_longer_rows(self):
        for row in rows_by_chance(3, 2000, 6):
            self.check_row(row)

    def test_what_is_told_by_doing_long_rows_that_can_be_done(self):
        chance = random.Random(4)
        for turn in range(200):
            row = ()
            for step in range(60):
                deed = chance.choice(DEEDS)
                if effect(row + (deed,)) is not None and len(row) < 40:
                    row += (deed,)
            self.check_row(row)


class EffectBehindTest(Case):

    def check_cuts(self, row):
        whole = effect(row)
        for cut in range(len(row) + 1):
            one, other = effect(row[:cut]), effect(row[cut:])
            if one is None or other is None:
                self.assertIsNone(whole)
                continue
            before = repr((one, other))
            self.assertVery(effect_behind(one, other), whole)
            self.assertEqual(repr((one, other)), before)

    def test_rows_cut_in_two(self):
        for row, told in ROWS:
            with self.subTest(row=row):
                self.check_cuts(row)
        for row in itertools.product(DEEDS, repeat=2):
            self.check_cuts(row)
        for row in rows_by_chance(6, 3000, 6):
            self.check_cuts(row)

    def test_two_of_the_rows(self):
        for one, other in itertools.product([row for row, told in ROWS if told], repeat=2):
            self.check_cuts(one + other)

    def test_nothing_on_either_side(self):
        self.assertVery(effect_behind(NOTHING, NOTHING), NOTHING)
        for told in [told for row, told in ROWS + ALONE if told]:
            self.assertVery(effect_behind(NOTHING, told), told)
            self.assertVery(effect_behind(told, NOTHING), told)

    def test_written_effects(self):
        moved = (("x",), (), (("x", 5, ("x",), 1),))
        renamed = (("x",), ("y",), (("y", "x", ("x",), 2),))
        self.assertVery(effect_behind(moved, renamed), (("x",), ("y",), (("y", 5, ("x",), 3),)))
        self.assertIsNone(effect_behind(renamed, moved))
        self.assertIsNone(effect_behind(renamed, renamed))
        self.assertIsNone(effect_behind(moved, ((), ("x",), ())))
        self.assertVery(effect_behind(moved, (("a",), ("b",), ())), (("a", "x"), ("b",), (("x", 5, ("x",), 1),)))


if __name__ == "__main__":
    unittest.main()
