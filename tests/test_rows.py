"""Rows done on worlds, and the rows that lead back [9]."""

import random
import unittest

from struckdeeds.doings import back_deed, done
from struckdeeds.errors import NoRow
from struckdeeds.rows import backs, gone
from tests.helper import NO_DEEDS, Case, doable_row, worlds_over

WORLD = (("a", 1, 10), ("b", 2, 20))
ROW = (("split", "a", "c", 3, 4), ("join", "b", "c"), ("name", "a", "d"), ("put", "a", 5, 5), ("move", "b", 9),
       ("count", "d", 100), ("take", "a"))
BEHIND = (("b", 9, 24), ("d", 1, 106))
BACKS = (("put", "a", 5, 5), ("count", "d", -100), ("move", "b", 2), ("take", "a"), ("name", "d", "a"),
         ("split", "b", "c", 3, 4), ("join", "a", "c"))


class DoneTest(Case):

    def test_the_row_of_no_deeds(self):
        for world in ((), WORLD):
            self.assertVery(gone(world, ()), world)
            self.assertVery(backs(world, ()), ())

    def test_a_row_of_every_kind(self):
        self.assertVery(gone(WORLD, ROW), BEHIND)
        self.assertVery(backs(WORLD, ROW), BACKS)
        self.assertVery(gone(BEHIND, BACKS), WORLD)
        self.assertVery(WORLD, (("a", 1, 10), ("b", 2, 20)))

    def test_one_behind_the_other(self):
        chance = random.Random(9)
        for turn in range(200):
            world = chance.choice(worlds_over("abc"))
            row = doable_row(chance, world, turn % 41)
            here, back = world, ()
            for deed in row:
                back = (back_deed(here, deed),) + back
                here = done(here, deed)
            self.assertVery(gone(world, row), here)
            self.assertVery(backs(world, row), back)
            self.assertVery(gone(here, back), world)


class RefusedTest(Case):

    def number(self, world, row):
        numbers = [self.refused(NoRow, call, world, row).number for call in (gone, backs)]
        self.assertVery(numbers[0], numbers[1])
        return numbers[0]

    def test_what_is_no_deed(self):
        for place in range(len(ROW) + 1):
            for thing in NO_DEEDS:
                with self.subTest(place=place, thing=thing):
                    self.assertVery(self.number(WORLD, ROW[:place] + (thing,) + ROW[place:]), place)

    def test_what_can_not_be_done_there(self):
        for place in range(len(ROW) + 1):
            for deed in (("take", "q"), ("put", "b", 1, 1), ("join", "b", "q"), ("name", "b", "b")):
                with self.subTest(place=place, deed=deed):
                    self.assertVery(self.number(WORLD, ROW[:place] + (deed,) + ROW[place:]), place)

    def test_the_first_is_told(self):
        self.assertVery(self.number(WORLD, (("take", "a"), ("take", "a"), None, ("take", "a"))), 1)
        self.assertVery(self.number(WORLD, (("take", "a"), None, ("take", "a"))), 1)
        self.assertVery(self.number(WORLD, (None, None)), 0)
        self.assertVery(self.number((), (("take", "a"), ("put", "a", 1, 1))), 0)
        self.assertVery(self.number((), (("put", "a", 1, 1), ("put", "b", 1, 1), ("put", "a", 1, 1))), 2)

    def test_a_row_that_needs_more_than_stands(self):
        self.assertVery(self.number((("a", 1, 10),), ROW), 1)
        self.assertVery(self.number((("b", 1, 10),), ROW), 0)
        self.assertVery(self.number(WORLD + (("d", 1, 1),), ROW), 2)


if __name__ == "__main__":
    unittest.main()
