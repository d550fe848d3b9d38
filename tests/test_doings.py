"""Deeds done on worlds, and back deeds [6, 7]."""

import itertools
import unittest

from struckdeeds.doings import back_deed, done
from struckdeeds.errors import NoDeed, NotNow
from struckdeeds.worlds import is_world
from tests.helper import DEEDS, NO_DEEDS, ODD_THINGS, Case, worlds_over

B = ("b", 2, 20)
D = ("d", 4, 40)
F = ("f", 6, 60)
WORLD = (B, D, F)

# A deed, the world behind it on WORLD, its back deed there.
DONE = [
    (("put", "a", 0, -1), (("a", 0, -1), B, D, F), ("take", "a")),
    (("put", "c", 999, 0), (B, ("c", 999, 0), D, F), ("take", "c")),
    (("put", "g", 1, 10 ** 12), (B, D, F, ("g", 1, 10 ** 12)), ("take", "g")),
    (("take", "b"), (D, F), ("put", "b", 2, 20)),
    (("take", "d"), (B, F), ("put", "d", 4, 40)),
    (("take", "f"), (B, D), ("put", "f", 6, 60)),
    (("move", "b", 0), (("b", 0, 20), D, F), ("move", "b", 2)),
    (("move", "d", 999), (B, ("d", 999, 40), F), ("move", "d", 4)),
    (("move", "f", 6), WORLD, ("move", "f", 6)),
    (("count", "b", 7), (("b", 2, 27), D, F), ("count", "b", -7)),
    (("count", "d", -47), (B, ("d", 4, -7), F), ("count", "d", 47)),
    (("count", "f", 0), WORLD, ("count", "f", 0)),
    (("name", "b", "g"), (D, F, ("g", 2, 20)), ("name", "g", "b")),
    (("name", "f", "a"), (("a", 6, 60), B, D), ("name", "a", "f")),
    (("name", "d", "e"), (B, ("e", 4, 40), F), ("name", "e", "d")),
    (("split", "b", "a", 9, 5), (("a", 9, 5), ("b", 2, 15), D, F), ("join", "b", "a")),
    (("split", "b", "c", 0, -5), (("b", 2, 25), ("c", 0, -5), D, F), ("join", "b", "c")),
    (("split", "b", "g", 999, 50), (("b", 2, -30), D, F, ("g", 999, 50)), ("join", "b", "g")),
    (("split", "d", "e", 1, 0), (B, D, ("e", 1, 0), F), ("join", "d", "e")),
    (("join", "b", "f"), (("b", 2, 80), D), ("split", "b", "f", 6, 60)),
    (("join", "f", "b"), (D, ("f", 6, 80)), ("split", "f", "b", 2, 20)),
    (("join", "d", "b"), (("d", 4, 60), F), ("split", "d", "b", 2, 20)),
]

# A deed and the first of its names that hinders it on WORLD.
NOT_NOW = [
    (("put", "b", 1, 1), "b"), (("put", "f", 6, 60), "f"),
    (("take", "a"), "a"), (("take", "g"), "g"), (("move", "c", 1), "c"), (("count", "e", 1), "e"),
    (("name", "a", "c"), "a"), (("name", "a", "b"), "a"), (("name", "b", "d"), "d"), (("name", "d", "b"), "b"),
    (("split", "a", "c", 1, 1), "a"), (("split", "a", "b", 1, 1), "a"), (("split", "b", "d", 1, 1), "d"),
    (("split", "f", "b", 1, 1), "b"),
    (("join", "a", "c"), "a"), (("join", "c", "a"), "c"), (("join", "a", "b"), "a"), (("join", "b", "a"), "a"),
    (("join", "f", "e"), "e"),
]


class DoneTest(Case):

    def test_each_kind(self):
        for deed, behind, back in DONE:
            with self.subTest(deed=deed):
                self.assertVery(done(WORLD, deed), behind)
                self.assertVery(WORLD, (("b", 2, 20), ("d", 4, 40), ("f", 6, 60)))

    def test_small_worlds(self):
        self.assertVery(done((), ("put", "a", 1, 2)), (("a", 1, 2),))
        self.assertVery(done((B,), ("take", "b")), ())
        self.assertVery(done((B,), ("name", "b", "a")), (("a", 2, 20),))

    def test_names_that_are_words(self):
        self.assertVery(done((("put", 1, 2), ("take", 3, 4)), ("join", "put", "take")), (("put", 1, 6),))
        self.assertVery(done((("take", 3, 4),), ("name", "take", "put")), (("put", 3, 4),))

    def test_a_world_is_told_wherever_it_can_be_done(self):
        for world, deed in itertools.product(worlds_over("abc"), DEEDS):
            try:
                behind = done(world, deed)
            except NotNow:
                continue
            self.assertIs(is_world(behind), True)
            self.assertIn(("z", 999, 777), behind)


class BackDeedTest(Case):

    def test_each_kind(self):
        for deed, behind, back in DONE:
            with self.subTest(deed=deed):
                self.assertVery(back_deed(WORLD, deed), back)

    def test_it_leads_back_and_its_own_is_the_deed(self):
        many = 0
        for world, deed in [(WORLD, row[0]) for row in DONE] + list(itertools.product(worlds_over("abc"), DEEDS)):
            try:
                behind = done(world, deed)
            except NotNow:
                continue
            many += 1
            back = back_deed(world, deed)
            self.assertVery(done(behind, back), world)
            self.assertVery(back_deed(behind, back), deed)
        self.assertGreater(many, 50)


class RefusedTest(Case):

    def test_no_deed_whatever_stands(self):
        for world in ((), WORLD, (("a", 1, 1),)):
            for thing in NO_DEEDS + ODD_THINGS + [("join", "b", "b"), ["take", "b"], ("put", "a", 1), ("take", "b", 1)]:
                with self.subTest(thing=thing):
                    self.refused(NoDeed, done, world, thing)
                    self.refused(NoDeed, back_deed, world, thing)

    def test_not_now(self):
        for deed, name in NOT_NOW:
            with self.subTest(deed=deed):
                self.assertVery(self.refused(NotNow, done, WORLD, deed).name, name)
                self.assertVery(self.refused(NotNow, back_deed, WORLD, deed).name, name)

    def test_it_can_be_done_just_where_nothing_hinders_it(self):
        for world, deed in itertools.product(worlds_over("abc"), DEEDS):
            standing = [thing[0] for thing in world]
            names = [part for part in deed[1:] if isinstance(part, str)]
            made = {"put": 0, "name": 1, "split": 1}.get(deed[0])
            wrong = [name for place, name in enumerate(names) if (name in standing) == (place == made)]
            for call in (done, back_deed):
                if wrong:
                    self.assertVery(self.refused(NotNow, call, world, deed).name, wrong[0])
                else:
                    call(world, deed)


if __name__ == "__main__":
    unittest.main()
