"""Rows that come to one another by changing places, and the least of them [14]."""

import itertools
import random
import unittest

from struckdeeds.changes import changed, least_row
from struckdeeds.touches import touch
from tests.helper import DEEDS, Case, doable_row, rows_by_chance, worlds_over

A, B, C, D = ("count", "a", 1), ("move", "a", 2), ("count", "b", 3), ("take", "b")


def all_changed(row):
    """Every row to which the row comes by changing places, gone through one by one."""
    found = [row]
    known = {row}
    for here in found:
        for at in range(len(here) - 1):
            if not touch(here[at], here[at + 1]):
                there = here[:at] + (here[at + 1], here[at]) + here[at + 2:]
                if there not in known:
                    known.add(there)
                    found.append(there)
    return known


def shuffled(chance, row, turns):
    """The row behind so many changes, by chance."""
    row = list(row)
    for turn in range(turns):
        at = chance.randrange(len(row) - 1)
        if not touch(row[at], row[at + 1]):
            row[at], row[at + 1] = row[at + 1], row[at]
    return tuple(row)


class ChangedTest(Case):

    def check_changes(self, row, other, told):
        self.assertEqual((type(told), len(told), told[0], type(told[1])), (tuple, 2, "changes", tuple))
        here = list(row)
        for at in told[1]:
            self.assertIs(type(at), int)
            self.assertTrue(0 <= at < len(here) - 1)
            self.assertFalse(touch(here[at], here[at + 1]))
            here[at], here[at + 1] = here[at + 1], here[at]
        self.assertVery(tuple(here), other)

    def check_bar(self, row, other, told):
        if told[0] == "often":
            self.assertEqual(len(told), 2)
            self.assertNotEqual(row.count(told[1]), other.count(told[1]))
            return
        self.assertEqual((told[0], len(told)), ("order", 3))
        one, two = told[1:]
        self.assertNotEqual(one, two)
        self.assertTrue(touch(one, two))
        self.assertEqual((row.count(one), row.count(two)), (other.count(one), other.count(two)))
        self.assertNotEqual([deed for deed in row if deed in (one, two)],
                            [deed for deed in other if deed in (one, two)])

    def check(self, row, other):
        """What is told, held against all rows to which the row comes."""
        told = self.asked(changed, row, other)
        if other in all_changed(row):
            self.check_changes(row, other, told)
        else:
            self.check_bar(row, other, told)
        return told[0]

    def test_rows_of_no_deeds(self):
        self.assertVery(changed((), ()), ("changes", ()))
        self.assertVery(changed((A,), ()), ("often", A))
        self.assertVery(changed((), (A,)), ("often", A))

    def test_the_row_itself(self):
        for row in rows_by_chance(21, 100, 40):
            self.assertVery(changed(row, row), ("changes", ()))

    def test_two_deeds(self):
        self.assertVery(changed((A, B), (B, A)), ("changes", (0,)))
        self.assertEqual(self.check((C, D), (D, C)), "order")
        for one, other in itertools.product(DEEDS, repeat=2):
            self.check((one, other), (other, one))
            self.check((one, other), (one, one))

    def test_how_often(self):
        self.assertVery(changed((A, B), (A, B, B)), ("often", B))
        self.assertVery(changed((A, B, B), (A, B)), ("often", B))
        self.assertEqual(self.check((A, A, B), (A, B, B)), "often")
        self.assertEqual(self.check((C, D), (C, A)), "often")
        self.assertEqual(self.check((("count", "a", 1),), (("count", "a", 2),)), "often")

    def test_deeds_that_stand_several_times(self):
        # A doesn't touch itself, D does: either way alike deeds needn't change places with one another.
        self.assertVery(changed((A, A, A), (A, A, A)), ("changes", ()))
        self.assertVery(changed((D, D), (D, D)), ("changes", ()))
        self.assertEqual(self.check((A, B, A, C, A), (A, A, A, B, C)), "changes")
        self.assertEqual(self.check((D, A, D, A), (A, A, D, D)), "changes")
        self.assertEqual(self.check((D, C, D), (D, D, C)), "order")
        for row in itertools.product((A, B, D, C), repeat=4):
            for other in set(itertools.permutations(row)):
                self.check(row, other)

    def test_short_rows_against_all_orders(self):
        for row in rows_by_chance(22, 60, 5):
            for other in set(itertools.permutations(row)):
                self.check(row, other)

    def test_far_apart(self):
        row = (B,) + tuple(("count", "a", step) for step in range(39))
        told = self.asked(changed, row, row[1:] + row[:1])
        self.check_changes(row, row[1:] + row[:1], told)
        self.assertVery(changed(row, row[1:-1] + (B,)), ("often", row[-1]))
        back = row[::-1]
        self.check_changes(row, back, self.asked(changed, row, back))

    def test_long_rows(self):
        chance = random.Random(23)
        for turn in range(40):
            row = doable_row(chance, chance.choice(worlds_over("abc")), 40)
            other = shuffled(chance, row, 2000)
            self.check_changes(row, other, self.asked(changed, row, other))
            self.check_changes(other, row, self.asked(changed, other, row))
            self.check_bar(row, other[:-1], self.asked(changed, row, other[:-1]))
            at = chance.choice([at for at in range(39) if row[at] != row[at + 1] and touch(row[at], row[at + 1])])
            turned = shuffled(chance, row[:at] + (row[at + 1], row[at]) + row[at + 2:], 500)
            told = self.asked(changed, row, turned)
            self.assertEqual(told[0], "order")
            self.check_bar(row, turned, told)


class LeastRowTest(Case):

    def test_written_rows(self):
        self.assertVery(least_row(()), ())
        self.assertVery(least_row((D,)), (D,))
        self.assertVery(least_row((B, A)), (A, B))
        self.assertVery(least_row((D, C)), (D, C))
        self.assertVery(least_row((D, C, B, A)), (A, B, D, C))
        self.assertVery(least_row((A, A, B, A)), (A, A, A, B))
        self.assertVery(least_row((("count", "a", 10), ("count", "a", -2), ("count", "a", 9))),
                        (("count", "a", -2), ("count", "a", 9), ("count", "a", 10)))

    def test_against_all_rows(self):
        chance = random.Random(24)
        deeds = DEEDS + [("count", "a", 7), ("move", "a", 0), ("put", "d", 1, 1), ("count", "d", 0)]
        rows = rows_by_chance(25, 400, 6, deeds)
        rows += [doable_row(chance, chance.choice(worlds_over("abc")), 6, deeds) for turn in range(300)]
        for row in rows:
            self.assertVery(self.asked(least_row, row), min(all_changed(row)))

    def test_long_rows(self):
        chance = random.Random(26)
        for turn in range(30):
            row = doable_row(chance, chance.choice(worlds_over("abc")), 40)
            least = self.asked(least_row, row)
            self.assertEqual(changed(row, least)[0], "changes")
            self.assertLessEqual(least, row)
            self.assertVery(least_row(shuffled(chance, row, 2000)), least)
            # No single deed can be drawn to an earlier place where it would be less.
            for at, deed in enumerate(least):
                for ahead in range(at):
                    if not any(touch(deed, between) for between in least[ahead:at]):
                        self.assertGreaterEqual(deed, least[ahead])

    def test_many_ways(self):
        row = tuple(("count", name, 1) for name in "zyxwvutsrqponmlkjihgfedcba")
        self.assertVery(least_row(row), row[::-1])


if __name__ == "__main__":
    unittest.main()
