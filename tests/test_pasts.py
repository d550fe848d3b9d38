"""Lines put into the past of a book [23]."""

import itertools
import random
import unittest

from struckdeeds.books import checked_book
from struckdeeds.deeds import made_by, must_stand
from struckdeeds.errors import NoDeed, NoLine, NoName, NotNow
from struckdeeds.pasts import put_in
from tests.helper import (CART_BOOK, NO_DEEDS, NO_NUMBERS, ODD_THINGS, Case, behind, book_by_chance, books_by_chance,
                          deeds_over, is_book, small_books, subsets)

BOOK = CART_BOOK

# A place, a deed, the numbers of what goes.
GONE = [
    (0, ("put", "x", 1, 1), ()), (3, ("put", "x", 1, 1), ()), (6, ("put", "x", 1, 1), ()),
    (0, ("move", "cart", 1), ()), (6, ("count", "c", 1), ()), (6, ("take", "c"), ()), (6, ("join", "cart", "c"), ()),
    (0, ("take", "cart"), (1, 2, 4, 5)), (2, ("take", "cart"), (2, 4, 5)), (3, ("name", "cart", "x"), ()),
    (1, ("take", "a"), (3, 4)), (4, ("take", "a"), (4,)), (2, ("join", "cart", "a"), (3, 4)),
    (2, ("join", "a", "cart"), (2, 4, 5)), (3, ("name", "b", "x"), (4, 5)), (5, ("take", "b"), (5,)),
    (3, ("join", "a", "b"), (4, 5)), (5, ("split", "b", "x", 1, 1), ()), (1, ("split", "a", "x", 1, 1), ()),
]


def with_line(book, place, deed, gone):
    """The book with a line of this deed at the place, without those that are gone."""
    lines = [line for number, line in enumerate(book[1]) if number < place and number not in gone]
    lines += [("h", deed)]
    lines += [line for number, line in enumerate(book[1]) if number >= place and number not in gone]
    return book[0], tuple(lines)


def refusal_of(book, place, deed):
    """By which class and name the deed is refused there, or None."""
    taken = [thing[0] for thing in book[0]] + [made_by(other) for hand, other in book[1]]
    made = made_by(deed)
    if made and made in taken:
        return NoName, made
    standing = [thing[0] for thing in behind(book[0], tuple(other for hand, other in book[1][:place]))]
    missing = [name for name in must_stand(deed) if name not in standing]
    return (NotNow, missing[0]) if missing else None


class PutInTest(Case):

    def check(self, book, place, hand, deed):
        new, gone = told = self.asked(put_in, book, place, hand, deed)
        self.assertVery((type(told), type(gone)), (tuple, tuple))
        self.assertVery(new[1][place], (hand, deed))
        self.assertVery((new[0], new[1][:place] + (("h", deed),) + new[1][place + 1:]), with_line(book, place, deed, gone))
        self.assertVery(checked_book(new), new)
        self.assertVery(gone, tuple(sorted(set(gone))))
        self.assertTrue(all(line >= place for line in gone))
        return gone

    def test_written_book(self):
        for place, deed, gone in GONE:
            with self.subTest(place=place, deed=deed):
                self.assertVery(self.check(BOOK, place, "cy", deed), gone)

    def test_into_a_book_of_no_lines(self):
        line = ("cy", ("put", "x", 1, 1))
        self.assertVery(put_in(((), ()), 0, *line), (((), (line,)), ()))
        line = ("cy", ("take", "cart"))
        self.assertVery(put_in((BOOK[0], ()), 0, *line), ((BOOK[0], (line,)), ()))

    def test_nothing_less_leaves_a_book(self):
        told = 0
        for book in small_books(longest=3):
            for place, deed in itertools.product(range(len(book[1]) + 1), deeds_over("abc")):
                if refusal_of(book, place, deed):
                    continue
                told += 1
                gone = self.check(book, place, "h", deed)
                leaving = [some for some in subsets(range(len(book[1]))) if is_book(*with_line(book, place, deed, some))]
                self.assertIn(gone, leaving)
                self.assertTrue(all(set(gone) <= set(some) for some in leaving))
        self.assertGreater(told, 1000)

    def test_each_place_of_long_books(self):
        chance = random.Random(71)
        for turn in range(3):
            book = book_by_chance(chance, 40)
            for place in range(41):
                world = behind(book[0], tuple(deed for hand, deed in book[1][:place]))
                self.assertVery(self.check(book, place, "cy", ("put", "zz", 1, 1)), ())
                for name, spot, count in world:
                    self.check(book, place, "cy", ("take", name))
                    self.check(book, place, "cy", ("name", name, "zz"))
                    self.assertVery(self.check(book, place, "cy", ("count", name, 1)), ())


class RefusedTest(Case):

    def test_places(self):
        for thing in NO_NUMBERS + [7, 40, -7, "6"]:
            with self.subTest(thing=thing):
                for hand, deed in (("cy", ("put", "x", 1, 1)), (None, None), ("cy", ("put", "a", 1, 1))):
                    self.assertVery(self.refused(NoLine, put_in, BOOK, thing, hand, deed).line, thing)
        self.assertVery(self.refused(NoLine, put_in, ((), ()), 1, "cy", ("put", "x", 1, 1)).line, 1)

    def test_hands(self):
        for thing in ODD_THINGS + [0, 7, ["cy"]]:
            for deed in (("put", "x", 1, 1), None, ("put", "a", 1, 1), ("take", "zz")):
                self.assertVery(self.refused(NoName, put_in, BOOK, 0, thing, deed).name, thing)

    def test_deeds(self):
        for thing in NO_DEEDS + ODD_THINGS:
            self.refused(NoDeed, put_in, BOOK, 3, "cy", thing)

    def test_names_that_are_made(self):
        for place in range(7):
            for name in ("a", "b", "c", "cart"):
                for deed in (("put", name, 1, 1), ("name", "zz", name), ("split", "zz", name, 1, 1)):
                    self.assertVery(self.refused(NoName, put_in, BOOK, place, "cy", deed).name, name)

    def test_not_now_by_the_world_there(self):
        for place, deed, name in (
                (0, ("take", "a"), "a"), (5, ("take", "a"), "a"), (2, ("count", "b", 1), "b"), (6, ("count", "b", 1), "b"),
                (5, ("count", "c", 1), "c"), (0, ("join", "a", "b"), "a"), (2, ("join", "a", "b"), "b"),
                (0, ("name", "c", "x"), "c"), (6, ("split", "zz", "x", 1, 1), "zz"), (0, ("move", "zz", 1), "zz")):
            with self.subTest(place=place, deed=deed):
                self.assertVery(self.refused(NotNow, put_in, BOOK, place, "cy", deed).name, name)

    def test_what_is_refused_in_small_books(self):
        for book in small_books(longest=2) + books_by_chance(72, 20, 4):
            for place, deed in itertools.product(range(len(book[1]) + 1), deeds_over("abc")):
                told = refusal_of(book, place, deed)
                if told:
                    self.assertVery(self.refused(told[0], put_in, book, place, "h", deed).name, told[1])


if __name__ == "__main__":
    unittest.main()
