"""Books, their worlds, and what their lines need [15, 16]."""

import unittest

from struckdeeds.books import book_world, checked_book, needs
from struckdeeds.errors import NoBook, NoLine
from struckdeeds.rows import gone
from tests.helper import NO_DEEDS, NO_NUMBERS, ODD_THINGS, Case, books_by_chance, is_book, small_books

START = (("cart", 5, 12), ("mill", 70, -3))
LINES = (
    ("ann", ("split", "cart", "sack", 8, 5)),
    ("bob", ("join", "mill", "sack")),
    ("ann", ("put", "ox", 1, 1)),
    ("cy", ("name", "ox", "bull")),
    ("bob", ("count", "mill", 4)),
    ("ann", ("join", "bull", "cart")),
    ("bob", ("take", "bull")),
)
BOOK = (START, LINES)

# Lines that are none wherever they stand.
NO_LINES = ODD_THINGS + NO_DEEDS + [
    ("ann", deed) for deed in NO_DEEDS] + [(hand, ("count", "mill", 1)) for hand in ODD_THINGS] + [
    ["ann", ("count", "mill", 1)], ("ann", ["count", "mill", 1]), ("ann", ("count", "mill", 1), None),
    ("ann",), (("count", "mill", 1), "ann"), ("ann", ("count", "mill", True)), ("ann", ("mill",))]


class CheckedTest(Case):

    def test_books(self):
        for book in [((), ()), (START, ()), BOOK] + small_books() + books_by_chance(31, 100, 12):
            self.assertVery(self.asked(checked_book, book), book)

    def test_books_of_forty_lines(self):
        for book in books_by_chance(32, 60, 40):
            self.assertVery(self.asked(checked_book, book), book)

    def number(self, thing):
        return self.refused(NoBook, checked_book, thing).number

    def test_what_is_no_tuple_of_a_world_and_a_tuple(self):
        for thing in ODD_THINGS:
            with self.subTest(thing=thing):
                self.assertIsNone(self.number(thing))
                self.assertIsNone(self.number((thing, LINES)))
                self.assertIsNone(self.number((thing, (None,))))
                if not isinstance(thing, tuple):
                    self.assertIsNone(self.number((START, thing)))
        for thing in ((START,), (START, LINES, ()), [START, LINES], (list(START), LINES), (START, list(LINES)),
                      (LINES, START), (START[::-1], LINES), (START + START, LINES), ((("cart", 5, True),), ()),
                      ((("cart", 1000, 1),), ()), (), None, {0: START, 1: LINES}):
            with self.subTest(thing=thing):
                self.assertIsNone(self.number(thing))

    def test_what_is_no_line(self):
        for place in (0, 3, len(LINES)):
            for thing in NO_LINES:
                with self.subTest(place=place, thing=thing):
                    self.assertVery(self.number((START, LINES[:place] + (thing,) + LINES[place:])), place)

    def test_what_can_not_be_done(self):
        for deed in (("take", "zz"), ("join", "mill", "zz"), ("join", "zz", "mill"), ("name", "zz", "yy"),
                     ("split", "zz", "yy", 1, 1), ("move", "zz", 1), ("count", "zz", 1)):
            for place in range(len(LINES) + 1):
                with self.subTest(place=place, deed=deed):
                    self.assertVery(self.number((START, LINES[:place] + (("ann", deed),) + LINES[place:])), place)
        # By a line left out, or exchanged with the next one.
        self.assertVery(self.number((START, LINES[1:])), 0)
        self.assertVery(self.number((START, LINES[:2] + LINES[3:])), 2)
        self.assertVery(self.number((START, LINES[:5] + (LINES[6], LINES[5]))), 6)
        self.assertVery(self.number(((), LINES)), 0)

    def test_names_that_are_made_again(self):
        for deed in (("put", "cart", 1, 1), ("name", "mill", "cart"), ("split", "mill", "cart", 1, 1)):
            # cart stands at the start: it isn't made anew, though it ended with line 5.
            for place in range(len(LINES) + 1):
                with self.subTest(place=place, deed=deed):
                    self.assertVery(self.number((START, LINES[:place] + (("ann", deed),) + LINES[place:])), place)
        for name, ended in (("sack", 2), ("ox", 4), ("bull", 7)):
            for deed in (("put", name, 1, 1), ("name", "mill", name), ("split", "mill", name, 1, 1)):
                with self.subTest(deed=deed):
                    self.assertVery(self.number((START, LINES[:ended] + (("ann", deed),) + LINES[ended:])), ended)
                    self.assertVery(self.number((START, LINES + (("ann", deed), None))), 7)
        self.assertVery(self.number(((), (("a", ("put", "x", 1, 1)), ("a", ("take", "x")), ("a", ("put", "x", 1, 1))))), 2)
        self.assertVery(self.number(((("x", 1, 1),), (("a", ("take", "x")), ("a", ("put", "x", 1, 1))))), 1)

    def test_the_first_is_told(self):
        self.assertVery(self.number((START, (None, None) + LINES)), 0)
        self.assertVery(self.number((START, LINES[:1] + (None,) + LINES[:1])), 1)
        self.assertVery(self.number((START, LINES[:2] + LINES[:1] + (None,))), 2)

    def test_small_books_and_one_line_more(self):
        deeds = [("put", "a", 1, 1), ("take", "a"), ("count", "b", 1), ("name", "a", "b"), ("join", "b", "a")]
        for start, lines in small_books(longest=2):
            for deed in deeds:
                for place in range(len(lines) + 1):
                    book = (start, lines[:place] + (("h", deed),) + lines[place:])
                    firsts = [number for number in range(len(book[1])) if not is_book(start, book[1][:number + 1])]
                    if firsts:
                        self.assertVery(self.number(book), firsts[0])
                    else:
                        self.assertVery(checked_book(book), book)


class WorldTest(Case):

    def test_worlds(self):
        self.assertVery(book_world(((), ())), ())
        self.assertVery(book_world((START, ())), START)
        self.assertVery(self.asked(book_world, BOOK), (("mill", 70, 6),))
        for start, lines in small_books(longest=2) + books_by_chance(33, 100, 40):
            self.assertVery(self.asked(book_world, (start, lines)), gone(start, tuple(deed for hand, deed in lines)))


class NeedsTest(Case):

    def test_written_book(self):
        told = [(), (0,), (), (2,), (), (3,), (3,)]
        self.assertVery([self.asked(needs, BOOK, number) for number in range(len(LINES))], told)

    def test_two_needs_rise(self):
        lines = (("h", ("put", "a", 1, 1)), ("h", ("put", "b", 1, 1)))
        for deed in (("join", "a", "b"), ("join", "b", "a")):
            self.assertVery(needs(((), lines + (("h", deed),)), 2), (0, 1))

    def test_what_a_line_needs(self):
        needing = {"put": (), "split": (1,), "name": (1,), "take": (1,), "move": (1,), "count": (1,), "join": (1, 2)}
        making = {"put": 1, "split": 2, "name": 2}
        for book in books_by_chance(34, 100, 40):
            deeds = [deed for hand, deed in book[1]]
            for number, deed in enumerate(deeds):
                names = [deed[at] for at in needing[deed[0]]]
                told = [maker for maker, other in enumerate(deeds)
                        if other[0] in making and other[making[other[0]]] in names]
                self.assertVery(self.asked(needs, book, number), tuple(told))

    def test_what_is_no_number(self):
        for book in (BOOK, ((), ()), (START, LINES[:1])):
            for thing in NO_NUMBERS + [len(book[1]), -len(book[1]) or -1]:
                with self.subTest(book=book, thing=thing):
                    self.assertVery(self.refused(NoLine, needs, book, thing).line, thing)


if __name__ == "__main__":
    unittest.main()
