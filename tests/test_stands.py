"""Stands of a book and their worlds [18]."""

import unittest

from struckdeeds.errors import NoStand
from struckdeeds.rows import gone
from struckdeeds.stands import is_stand, stand_world
from tests.helper import NO_NUMBERS, ODD_THINGS, Case, all_stands, books_by_chance, part, small_books, subsets

START = (("cart", 5, 12),)
LINES = (
    ("ann", ("put", "a", 1, 1)),
    ("bob", ("put", "b", 2, 2)),
    ("ann", ("name", "a", "c")),
    ("bob", ("count", "cart", 7)),
    ("ann", ("join", "c", "b")),
)
BOOK = (START, LINES)

STANDS = [(), (0,), (1,), (3,), (0, 1), (0, 2), (1, 3), (0, 1, 2, 4), (0, 1, 2, 3), (0, 1, 2, 3, 4)]

NO_STANDS = [
    # A need is left out, straight or through another one.
    (2,), (4,), (1, 2), (0, 4), (0, 2, 4), (0, 1, 4), (1, 2, 4), (2, 3),
    # Twice, falling, other than rising.
    (0, 0), (1, 0), (0, 1, 1), (0, 2, 1), (4, 2, 1, 0), (0, 1, 2, 4, 3), (3, 0),
    # Beyond, or of other kinds.
    (5,), (-1,), (0, 5), (-5,), (-1, 0), (True,), (False,), (0, True), (False, 1), (0, True, 2), (None,), ("0",), ("a",),
    ([],), ({},), ((0,),), ((),), (0, None), (0, "1"), (b"0",), (0, (1,)),
    # No tuple.
    [], [0], [0, 1], {}, {0: 0}, None, True, False, 0, 1, "", "0", b"", b"\x00", "ann",
]


class StandTest(Case):

    def test_written_stands(self):
        for thing in STANDS:
            with self.subTest(thing=thing):
                self.assertVery(self.asked(is_stand, BOOK, thing), True)

    def test_what_is_none(self):
        for thing in NO_STANDS + ODD_THINGS + [(thing,) for thing in NO_NUMBERS]:
            with self.subTest(thing=thing):
                self.assertVery(self.asked(is_stand, BOOK, thing), False)
                self.refused(NoStand, stand_world, BOOK, thing)

    def test_a_book_of_no_lines(self):
        self.assertVery(is_stand((START, ()), ()), True)
        self.assertVery(is_stand((START, ()), (0,)), False)
        self.assertVery(stand_world((START, ()), ()), START)
        self.refused(NoStand, stand_world, (START, ()), (0,))

    def test_stands_are_books_of_their_own(self):
        for book in small_books() + books_by_chance(51, 60, 8):
            stands = all_stands(book)
            for some in subsets(range(len(book[1]))):
                self.assertVery(is_stand(book, some), some in stands)

    def test_worlds(self):
        self.assertVery(stand_world(BOOK, (0, 2)), (("c", 1, 1), ("cart", 5, 12)))
        self.assertVery(stand_world(BOOK, (0, 1, 2, 3, 4)), (("c", 1, 3), ("cart", 5, 19)))
        for book in small_books(longest=2) + books_by_chance(52, 30, 8):
            for stand in all_stands(book):
                start, lines = part(book, stand)
                self.assertVery(self.asked(stand_world, book, stand), gone(start, tuple(deed for hand, deed in lines)))


if __name__ == "__main__":
    unittest.main()
