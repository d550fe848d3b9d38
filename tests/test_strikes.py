"""Lines struck out of a book [17, and of 3 what speaks of strikes]."""

import itertools
import random
import unittest

from struckdeeds.books import needs
from struckdeeds.errors import NoLine
from struckdeeds.strikes import chains, goes, left
from tests.helper import NO_NUMBERS, Case, book_by_chance, books_by_chance, is_book, part, small_books, subsets

START = (("cart", 5, 12),)
LINES = (
    ("ann", ("put", "a", 1, 1)),
    ("bob", ("put", "b", 2, 2)),
    ("ann", ("name", "a", "c")),
    ("bob", ("count", "b", 7)),
    ("ann", ("join", "c", "b")),
    ("bob", ("count", "cart", 1)),
    ("ann", ("split", "c", "d", 3, 3)),
    ("bob", ("take", "cart")),
    ("ann", ("take", "d")),
)
BOOK = (START, LINES)

# Struck lines, and all that go.
GOES = [
    ((), ()), ((0,), (0, 2, 4, 6, 8)), ((1,), (1, 3, 4)), ((2,), (2, 4, 6, 8)), ((3,), (3,)), ((4,), (4,)), ((5,), (5,)),
    ((6,), (6, 8)), ((7,), (7,)), ((8,), (8,)), ((3, 6), (3, 6, 8)), ((6, 3), (3, 6, 8)), ((8, 6, 8, 6), (6, 8)),
    ((1, 0), (0, 1, 2, 3, 4, 6, 8)), ((7, 7), (7,)), (tuple(range(9)), tuple(range(9))),
    (tuple(range(8, -1, -1)), tuple(range(9))),
]


def rest(book, going):
    return part(book, [number for number in range(len(book[1])) if number not in going])


class StrikesTest(Case):

    def check(self, book, struck):
        """What goes, its chains and what is left, one held against the other."""
        going = self.asked(goes, book, struck)
        self.assertVery(going, tuple(sorted(set(going) | set(struck))))
        told = self.asked(chains, book, struck)
        self.assertIs(type(told), tuple)
        self.assertVery(tuple(chain[-1] for chain in told), tuple(line for line in going if line not in struck))
        for chain in told:
            self.assertIs(type(chain), tuple)
            self.assertIn(chain[0], struck)
            for ahead, line in zip(chain, chain[1:]):
                self.assertIn(ahead, needs(book, line))
        self.assertVery(self.asked(left, book, struck), rest(book, going))
        self.assertTrue(is_book(*left(book, struck)))
        return going

    def test_written_book(self):
        for struck, told in GOES:
            with self.subTest(struck=struck):
                self.assertVery(self.check(BOOK, struck), told)

    def test_written_chains(self):
        self.assertVery(chains(BOOK, ()), ())
        self.assertVery(chains(BOOK, (0,)), ((0, 2), (0, 2, 4), (0, 2, 6), (0, 2, 6, 8)))
        self.assertVery(chains(BOOK, (1,)), ((1, 3), (1, 4)))
        self.assertVery(chains(BOOK, (8, 6, 8)), ())
        self.assertIn(chains(BOOK, (0, 1))[2], ((0, 2, 4), (1, 4)))

    def test_a_book_of_no_lines(self):
        for start in ((), START):
            self.assertVery(goes((start, ()), ()), ())
            self.assertVery(chains((start, ()), ()), ())
            self.assertVery(left((start, ()), ()), (start, ()))

    def test_only_what_needs_goes(self):
        # What is struck may end a name, move or count it: the lines behind stand all the same.
        start = (("a", 1, 1), ("b", 1, 1))
        lines = (("h", ("move", "a", 2)), ("h", ("count", "a", 2)), ("h", ("join", "a", "b")), ("h", ("take", "a")))
        for number in range(4):
            self.assertVery(self.check((start, lines), (number,)), (number,))

    def test_the_only_least_set(self):
        books = small_books(longest=3) + books_by_chance(41, 60, 7)
        for book in books:
            numbers = range(len(book[1]))
            leaving = [set(going) for going in subsets(numbers) if is_book(*rest(book, going))]
            for struck in subsets(numbers):
                holding = [going for going in leaving if going >= set(struck)]
                self.assertVery(goes(book, struck), tuple(sorted(set.intersection(*holding))))
                self.assertIn(set(goes(book, struck)), holding)

    def test_books_of_forty_lines(self):
        chance = random.Random(42)
        for turn in range(40):
            book = book_by_chance(chance, 40)
            for many in (0, 1, 1, 2, 5, 45):
                self.check(book, tuple(chance.randrange(40) for step in range(many)))

    def test_one_behind_the_other_or_at_once(self):
        for book in books_by_chance(43, 60, 12):
            for one, other in itertools.permutations(range(len(book[1])), 2):
                at_once = left(book, (one, other))
                going = goes(book, (one,))
                if other in going:
                    self.assertVery(left(book, (one,)), at_once)
                    continue
                number = other - len([line for line in going if line < other])
                self.assertVery(left(left(book, (one,)), (number,)), at_once)

    def test_long_chains(self):
        lines = (("h", ("put", "a", 1, 1)),)
        names = ["a"] + [one + other for one in "abcdef" for other in "ghijklm"]
        lines += tuple(("h", ("name", one, other)) for one, other in zip(names[:39], names[1:]))
        book = ((), lines)
        self.assertVery(self.check(book, (0,)), tuple(range(40)))
        self.assertVery(chains(book, (0,))[-1], tuple(range(40)))
        self.assertVery(chains(book, (38,)), ((38, 39),))


class RefusedTest(Case):

    def check(self, book, struck, thing):
        for call in (goes, chains, left):
            self.assertVery(self.refused(NoLine, call, book, struck).line, thing)

    def test_what_is_no_line(self):
        for thing in NO_NUMBERS + [9, -9, 40]:
            with self.subTest(thing=thing):
                for struck in ((thing,), (0, thing), (thing, 8), (0, 0, thing, 10, None)):
                    self.check(BOOK, struck, thing)
        self.check(((), ()), (0,), 0)

    def test_the_first_is_told(self):
        self.check(BOOK, (0, True, None), True)
        self.check(BOOK, (10, 9), 10)
        self.check(BOOK, (8, 9, -1), 9)


if __name__ == "__main__":
    unittest.main()
