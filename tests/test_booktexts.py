"""Texts of books, written and read [28]."""

import random
import unittest

from struckdeeds.booktexts import read_book, show_book
from struckdeeds.errors import NoText
from tests.helper import CART_BOOK, ODD_THINGS, Case, book_by_chance, books_by_chance, small_books

TEXT = """start cart@5:12
ann: put a 1 1
bob: count cart 2
ann: split cart b 3 3
bob: count a 1
ann: join b a
bob: name b c"""
ROWS = TEXT.split("\n")

# A text, and the number of its first row that isn't so or by which it is no book.
WRONG = [
    ("", 0), (" ", 0), ("-", 0), ("start", 0), ("start ", 0), ("start  -", 0), (" start -", 0), ("Start -", 0),
    ("start - ", 0), ("start: -", 0), ("start\n-", 0), ("start -,", 0), ("start -, a@1:1", 0), ("start a@1:1,b@1:1", 0),
    ("start a@1:1, a@1:1", 0), ("start b@1:1, a@1:1", 0), ("start a@1000:1", 0), ("start a@1", 0), ("start a@01:1", 0),
    ("start a@1:-0", 0), ("start a@1:+1", 0), ("starta@1:1", 0), ("start a@1:1, ", 0), ("cart@5:12", 0),
    ("\nstart -", 0), ("\n", 0), ("start -\n", 1), ("start -\n\n", 1), ("start - \nann: take a", 0), ("start -\r\n", 0),
    ("start -\nann: put a 1 1\n", 2), ("start -\n\nann: put a 1 1", 1), ("start -\r\nann: put a 1 1", 0),
    ("start -\n ", 1), ("start -\nann", 1), ("start -\nann:", 1), ("start -\nann: ", 1), ("start -\nput a 1 1", 1),
    ("start -\nann:put a 1 1", 1), ("start -\nann:  put a 1 1", 1), ("start -\nann : put a 1 1", 1),
    ("start -\n ann: put a 1 1", 1), ("start -\nann: put a 1 1 ", 1), ("start -\nann: put  a 1 1", 1),
    ("start -\nAnn: put a 1 1", 1), ("start -\n: put a 1 1", 1), ("start -\nninechars: put a 1 1", 1),
    ("start -\nann: put a 01 1", 1), ("start -\nann: put a 1 +1", 1), ("start -\nann: put a 1 -0", 1),
    ("start -\nann: put a 1000 1", 1), ("start -\nann: put A 1 1", 1), ("start -\nann: put a 1", 1),
    ("start -\nann: put a 1 1 1", 1), ("start -\nann: ann: put a 1 1", 1), ("start -\nann, put a 1 1", 1),
    ("start -\nstart -", 1), ("start -\nann: start -", 1), ("start -; ann: put a 1 1", 0), ("start -\tann: put a 1 1", 0),
    # Rows that are so, by which it is no book.
    ("start -\nann: take a", 1), ("start a@1:1\nann: put a 1 1", 1), ("start a@1:1\nann: take a\nbob: take a", 2),
    ("start a@1:1\nann: take a\nbob: put a 1 1", 2), ("start -\nann: put a 1 1\nann: count a 1\nann: put a 1 1", 3),
    ("start a@1:1\nann: name a b\nann: name b a", 2), ("start a@1:1\nann: join a b", 1),
    # The first of several.
    ("start -\nann: take a\nann", 1), ("start -\nann\nann: take a", 1), ("start -\nann: put a 1 1\nann\nann: take b", 2),
    ("start -\nann: put a 1 1\nann: take b\nann\n", 2), ("star\nann: take a", 0), ("start -\n\nann: take a", 1),
]


class ShowTest(Case):

    def test_written_texts(self):
        self.assertVery(self.asked(show_book, CART_BOOK), TEXT)
        self.assertVery(self.asked(show_book, ((), ())), "start -")
        self.assertVery(show_book((CART_BOOK[0], ())), "start cart@5:12")
        self.assertVery(show_book(((), (("h", ("put", "a", 0, -10 ** 12)),))), "start -\nh: put a 0 -1000000000000")
        self.assertVery(show_book(((("a", 0, 0), ("b", 999, -7)), (("h", ("take", "a")),))),
                        "start a@0:0, b@999:-7\nh: take a")

    def test_there_and_back(self):
        chance = random.Random(131)
        books = small_books()[::3] + books_by_chance(132, 50, 10) + [book_by_chance(chance, 40) for turn in range(10)]
        for book in books:
            self.assertVery(self.asked(read_book, show_book(book)), book)


class ReadTest(Case):

    def part_of(self, text):
        """The part by which the text is refused."""
        return self.refused(NoText, read_book, text).part

    def test_written_texts(self):
        self.assertVery(self.asked(read_book, TEXT), CART_BOOK)
        self.assertVery(read_book("start -"), ((), ()))
        self.assertVery(read_book("start a@1:-5"), ((("a", 1, -5),), ()))

    def test_wrong_texts(self):
        for text, part in WRONG:
            with self.subTest(text=text):
                self.assertVery(self.part_of(text), part)

    def test_what_is_no_text(self):
        for thing in [thing for thing in ODD_THINGS if not isinstance(thing, str)] + [CART_BOOK, ROWS, TEXT.encode(), 0]:
            self.assertVery(self.part_of(thing), None)

    def test_a_row_left_out(self):
        # What then can't be done comes with the row that needed the one left out.
        for number, part in ((0, 0), (1, 3), (3, 4), (5, None), (2, None), (4, None), (6, None)):
            text = "\n".join(ROWS[:number] + ROWS[number + 1:])
            if part is None:
                self.assertVery(show_book(read_book(text)), text)
            else:
                self.assertVery(self.part_of(text), part)

    def test_a_row_put_in(self):
        for number in range(len(ROWS) + 1):
            for row in ("", " ", "ann", "ann: ", "ann: take zz", "Ann: put zz 1 1", "start -", "ann: put cart 1 1"):
                self.assertVery(self.part_of("\n".join(ROWS[:number] + [row] + ROWS[number:])),
                                1 if number == 0 and row == "start -" else number)
            if number > 0:
                text = "\n".join(ROWS[:number] + ["cy: put zz 1 1"] + ROWS[number:])
                self.assertVery(show_book(read_book(text)), text)

    def test_a_row_twice(self):
        for number, part in ((0, 1), (1, 2), (2, None), (3, 4), (4, None), (5, 6), (6, 7)):
            text = "\n".join(ROWS[:number + 1] + ROWS[number:])
            if part is None:
                self.assertVery(show_book(read_book(text)), text)
            else:
                self.assertVery(self.part_of(text), part)

    def test_another_order(self):
        for number, part in ((0, 0), (1, None), (2, None), (3, None), (4, 5), (5, 6)):
            text = "\n".join(ROWS[:number] + ROWS[number:number + 2][::-1] + ROWS[number + 2:])
            if part is None:
                self.assertVery(show_book(read_book(text)), text)
            else:
                self.assertVery(self.part_of(text), part)
        self.assertVery(self.part_of("\n".join(ROWS[:1] + ROWS[:0:-1])), 1)

    def test_what_is_read_is_written_so(self):
        chance = random.Random(133)
        signs = "\n :,@-+0123 abcyz"
        refused = 0
        for turn in range(3000):
            at = chance.randrange(len(TEXT))
            text = TEXT[:at] + chance.choice(("", chance.choice(signs))) + TEXT[at + chance.randrange(2):]
            try:
                self.assertVery(show_book(read_book(text)), text)
            except NoText as refusal:
                refused += 1
                self.assertVery(refusal.part, self.first_wrong(text))
        self.assertGreater(refused, 1000)

    def first_wrong(self, text):
        """The number of the first row with which the rows up to it are no book."""
        rows = text.split("\n")
        for number in range(len(rows)):
            try:
                read_book("\n".join(rows[:number + 1]))
            except NoText:
                return number


if __name__ == "__main__":
    unittest.main()
