"""Deeds that touch one another [13]."""

import itertools
import unittest

from struckdeeds.rows import backs
from struckdeeds.touches import touch
from tests.helper import Case, behind, deeds_over, worlds_over

# Pairs that share a name and don't touch, whichever is first.
SHARING = [
    (("count", "x", 1), ("count", "x", 2)), (("count", "x", 1), ("count", "x", 1)),
    (("count", "x", 1), ("move", "x", 2)),
    (("count", "x", 1), ("split", "x", "y", 2, 3)), (("count", "x", 1), ("join", "x", "y")),
    (("move", "x", 1), ("split", "x", "y", 2, 3)), (("move", "x", 1), ("join", "x", "y")),
    (("split", "x", "y", 2, 3), ("split", "x", "z", 2, 3)), (("split", "x", "y", 2, 3), ("join", "x", "z")),
    (("join", "x", "y"), ("join", "x", "z")),
]

# Pairs that touch, whichever is first.
TOUCHING = [
    (("move", "x", 1), ("move", "x", 2)), (("move", "x", 1), ("move", "x", 1)),
    (("put", "x", 1, 1), ("put", "x", 1, 1)), (("put", "x", 1, 1), ("put", "x", 1, 2)),
    (("put", "x", 1, 1), ("take", "x")), (("put", "x", 1, 1), ("move", "x", 1)), (("put", "x", 1, 1), ("count", "x", 1)),
    (("put", "x", 1, 1), ("name", "x", "y")), (("put", "y", 1, 1), ("name", "x", "y")),
    (("put", "x", 1, 1), ("split", "x", "y", 1, 1)), (("put", "y", 1, 1), ("split", "x", "y", 1, 1)),
    (("put", "x", 1, 1), ("join", "x", "y")), (("put", "y", 1, 1), ("join", "x", "y")),
    (("take", "x"), ("take", "x")), (("take", "x"), ("move", "x", 1)), (("take", "x"), ("count", "x", 0)),
    (("take", "x"), ("name", "x", "y")), (("take", "y"), ("name", "x", "y")),
    (("take", "x"), ("split", "x", "y", 1, 1)), (("take", "y"), ("split", "x", "y", 1, 1)),
    (("take", "x"), ("join", "x", "y")), (("take", "y"), ("join", "x", "y")),
    (("move", "x", 1), ("name", "x", "y")), (("move", "y", 1), ("name", "x", "y")),
    (("move", "y", 1), ("split", "x", "y", 1, 1)), (("move", "y", 1), ("join", "x", "y")),
    (("count", "x", 1), ("name", "x", "y")), (("count", "y", 1), ("name", "x", "y")),
    (("count", "y", 1), ("split", "x", "y", 1, 1)), (("count", "y", 1), ("join", "x", "y")),
    (("name", "x", "y"), ("name", "x", "y")), (("name", "x", "y"), ("name", "y", "x")),
    (("name", "x", "y"), ("name", "x", "z")), (("name", "x", "y"), ("name", "z", "y")),
    (("name", "x", "y"), ("name", "y", "z")),
    (("name", "x", "y"), ("split", "x", "y", 1, 1)), (("name", "x", "y"), ("split", "y", "x", 1, 1)),
    (("name", "x", "y"), ("split", "x", "z", 1, 1)), (("name", "x", "y"), ("split", "z", "x", 1, 1)),
    (("name", "x", "y"), ("split", "y", "z", 1, 1)), (("name", "x", "y"), ("split", "z", "y", 1, 1)),
    (("name", "x", "y"), ("join", "x", "y")), (("name", "x", "y"), ("join", "y", "x")),
    (("name", "x", "y"), ("join", "x", "z")), (("name", "x", "y"), ("join", "z", "x")),
    (("name", "x", "y"), ("join", "y", "z")), (("name", "x", "y"), ("join", "z", "y")),
    (("split", "x", "y", 1, 1), ("split", "x", "y", 1, 1)), (("split", "x", "y", 1, 1), ("split", "x", "y", 1, 2)),
    (("split", "x", "y", 1, 1), ("split", "y", "x", 1, 1)), (("split", "x", "y", 1, 1), ("split", "z", "y", 1, 1)),
    (("split", "x", "y", 1, 1), ("split", "y", "z", 1, 1)), (("split", "x", "y", 1, 1), ("join", "x", "y")),
    (("split", "x", "y", 1, 1), ("join", "y", "x")), (("split", "x", "y", 1, 1), ("join", "y", "z")),
    (("split", "x", "y", 1, 1), ("join", "z", "y")), (("split", "x", "y", 1, 1), ("join", "z", "x")),
    (("join", "x", "y"), ("join", "x", "y")), (("join", "x", "y"), ("join", "y", "x")),
    (("join", "x", "y"), ("join", "z", "y")), (("join", "x", "y"), ("join", "y", "z")),
]


def come_to(world, row):
    """The world behind the row and its back deeds, in whatever order; None where it can't be done."""
    here = behind(world, row)
    return None if here is None else (here, sorted(backs(world, row)))


class TouchTest(Case):

    def check(self, one, other, told):
        for pair in ((one, other), (other, one)):
            with self.subTest(pair=pair):
                self.assertVery(self.asked(touch, *pair), told)

    def test_what_shares_a_name_and_may_change_places(self):
        for one, other in SHARING:
            self.check(one, other, False)

    def test_what_shares_a_name_and_touches(self):
        for one, other in TOUCHING:
            self.check(one, other, True)

    def test_no_shared_name(self):
        for one in deeds_over("xy"):
            for other in deeds_over("vw"):
                self.check(one, other, False)

    def test_numbers_that_are_the_same_are_no_shared_name(self):
        self.check(("move", "x", 5), ("move", "y", 5), False)
        self.check(("put", "x", 5, 5), ("split", "y", "z", 5, 5), False)

    def test_each_pair_is_in_the_lists_above(self):
        """Each two kinds over x, y, z that share a name stand above, by some naming of x, y and z."""
        def forms(one, other):
            for letters in itertools.permutations("xyz"):
                naming = dict(zip("xyz", letters))
                renamed = [(deed[0],) + tuple(naming.get(part, 0) for part in deed[1:]) for deed in (one, other)]
                yield tuple(sorted(renamed))
        told = {}
        for pairs, answer in ((SHARING, False), (TOUCHING, True)):
            for one, other in pairs:
                told.update((form, answer) for form in forms(one, other))
        for one, other in itertools.product(deeds_over("xyz"), repeat=2):
            if set(one) & set(other) & set("xyz"):
                self.assertVery(touch(one, other), told[next(forms(one, other))])

    def test_what_changing_places_comes_to(self):
        """Untouched, the row is alike with the same back deeds; touched and unlike, it isn't."""
        worlds = worlds_over("abc") + worlds_over("abc", 101, 2000000)
        deeds = deeds_over("abc")
        others = deeds + [("put", "a", 41, 3), ("move", "a", 51), ("count", "a", 9), ("split", "a", "b", 61, 18)]
        for one, other in itertools.product(deeds, others):
            pairs = [(come_to(world, (one, other)), come_to(world, (other, one))) for world in worlds]
            doable = [pair for pair in pairs if pair != (None, None)]
            if not touch(one, other):
                self.assertTrue(all(here == there for here, there in doable))
            elif doable and one != other:
                self.assertTrue(any(here != there for here, there in doable))


if __name__ == "__main__":
    unittest.main()
