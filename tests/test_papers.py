"""The claims that are true, with papers that the checker takes [27]."""

import itertools
import random
import unittest

from struckdeeds.changes import changed
from struckdeeds.checker import holds
from struckdeeds.errors import NoJoin, NoLine, NoStand
from struckdeeds.joins import joined
from struckdeeds.papers import paper_changes, paper_goes, paper_joined, paper_lifted, paper_rows, paper_way
from struckdeeds.partings import alike
from struckdeeds.stands import stand_world
from struckdeeds.strikes import chains, goes
from struckdeeds.ways import lifted, way
from tests.helper import (CART_BOOK, NO_NUMBERS, Case, all_stands, book_by_chance, books_by_chance, books_of_two_hands,
                          rows_by_chance, small_books, small_pairs, subsets)

ALL = (0, 1, 2, 3, 4, 5)


class PapersTest(Case):

    def taken(self, told, claim):
        """It is this claim, and the checker takes it with its paper."""
        self.assertEqual((type(told), len(told)), (tuple, 2))
        self.assertVery(told[0], claim)
        self.assertIs(holds(*told), True)
        return told[1]

    def goes(self, book, struck):
        told = self.asked(paper_goes, book, struck)
        self.assertVery(self.taken(told, ("goes", book, struck, goes(book, struck))), chains(book, struck))

    def rows(self, row, other):
        word, *worlds = alike(row, other)
        paper = self.taken(self.asked(paper_rows, row, other), (word, row, other))
        self.assertEqual(paper is None, word == "alike")
        return word

    def changes(self, row, other):
        word = "changes" if changed(row, other)[0] == "changes" else "no changes"
        self.taken(self.asked(paper_changes, row, other), (word, row, other))
        return word

    def way(self, book, stand, wished):
        told = self.asked(paper_way, book, stand, wished)
        paper = self.taken(told, ("leads", book, stand, wished, stand_world(book, wished)))
        self.assertVery(self.walk(book, stand, paper), (wished, stand_world(book, wished)))
        self.assertVery(paper, way(book, stand, wished))

    def lifted(self, book, stand, wished):
        told = self.asked(paper_lifted, book, stand, wished)
        numbers = lifted(book, stand, wished)
        self.assertEqual((type(told), len(told)), (tuple, len(numbers)))
        for one, number in zip(told, numbers):
            self.taken(one, ("lifted", book, stand, wished, number))

    def joined(self, one, other):
        word, paper = joined(one, other)
        self.taken(self.asked(paper_joined, one, other), (word, one, other))
        return word

    def test_written_ones(self):
        self.assertVery(paper_goes(CART_BOOK, (2,)), (("goes", CART_BOOK, (2,), (2, 4, 5)), ((2, 4), (2, 5))))
        row, other = (("count", "a", 1), ("move", "a", 2)), (("move", "a", 2), ("count", "a", 1))
        self.assertVery(paper_rows(row, other), (("alike", row, other), None))
        self.assertVery(paper_changes(row, other), (("changes", row, other), (0,)))
        self.assertVery(paper_changes(row, row[1:]), (("no changes", row, row[1:]), ("often", row[0])))
        self.assertVery(paper_way(CART_BOOK, (1,), ()), (("leads", CART_BOOK, (1,), (), CART_BOOK[0]),
                                                         (("back", 1, ("count", "cart", -2)),)))
        self.assertVery(paper_lifted(CART_BOOK, (0, 1), (1,)), ((("lifted", CART_BOOK, (0, 1), (1,), 0), (0,)),))
        self.assertVery(paper_lifted(CART_BOOK, (0, 1), (0, 1)), ())
        self.assertVery(paper_joined(CART_BOOK, CART_BOOK), (("joined", CART_BOOK, CART_BOOK), CART_BOOK))

    def test_of_nothing(self):
        empty = ((), ())
        self.goes(empty, ())
        self.assertEqual((self.rows((), ()), self.changes((), ())), ("alike", "changes"))
        self.way(empty, (), ())
        self.lifted(empty, (), ())
        self.assertEqual(self.joined(empty, empty), "joined")

    def test_what_goes(self):
        for book in small_books()[::5] + books_by_chance(121, 20, 5):
            for struck in subsets(range(len(book[1]))):
                self.goes(book, struck)
                self.goes(book, struck[::-1] + struck)

    def test_rows(self):
        words = [call(row, other) for row, other in zip(rows_by_chance(122, 600, 3), rows_by_chance(123, 600, 3))
                 for call in (self.rows, self.changes)]
        words += [self.changes(row, row[::-1]) for row in rows_by_chance(124, 300, 4)]
        for word in ("alike", "parted", "changes", "no changes"):
            self.assertGreater(words.count(word), 10)

    def test_stands(self):
        for book in small_books()[::9] + books_by_chance(125, 15, 5):
            for stand, wished in itertools.product(all_stands(book), repeat=2):
                self.way(book, stand, wished)
                self.lifted(book, stand, wished)

    def test_two_books(self):
        words = [self.joined(one, other) for one, other in small_pairs()[::9] + books_of_two_hands(126, 60, 6)]
        self.assertGreater(min(words.count("joined"), words.count("quarrel")), 20)

    def test_forty(self):
        chance = random.Random(127)
        for turn in range(8):
            book = book_by_chance(chance, 40)
            numbers = range(40)
            self.goes(book, tuple(chance.sample(numbers, 3)))
            stand, wished = [tuple(line for line in numbers if line not in goes(book, struck)) for struck in
                             [tuple(chance.sample(numbers, 2)) for side in range(2)]]
            self.way(book, stand, wished)
            self.lifted(book, stand, wished)
            row = tuple(deed for hand, deed in book[1])
            self.rows(row, row[1:])
            self.changes(row, row[::-1])
        for one, other in books_of_two_hands(128, 20, 20):
            self.joined(one, other)


class RefusedTest(Case):

    def test_no_lines(self):
        for thing in NO_NUMBERS + [6, -6]:
            self.assertVery(self.refused(NoLine, paper_goes, CART_BOOK, (0, thing, 77)).line, thing)

    def test_no_stands(self):
        for call in (paper_way, paper_lifted):
            for thing in ((4,), (0, 0), (2, 1), (True,), (6,), [0], None, "0", 0, {}):
                self.refused(NoStand, call, CART_BOOK, thing, ALL)
                self.refused(NoStand, call, CART_BOOK, ALL, thing)

    def test_unlike_starts(self):
        self.refused(NoJoin, paper_joined, CART_BOOK, ((), ()))
        self.refused(NoJoin, paper_joined, ((), ()), CART_BOOK)


if __name__ == "__main__":
    unittest.main()
