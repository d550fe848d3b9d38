"""What is lifted between two stands, and the way [18, 19]."""

import itertools
import random
import unittest

from struckdeeds.books import needs
from struckdeeds.errors import NoStand
from struckdeeds.stands import stand_world
from struckdeeds.strikes import goes
from struckdeeds.touches import touch
from struckdeeds.ways import lifted, way
from tests.helper import Case, all_stands, book_by_chance, books_by_chance, small_books

START = (("cart", 5, 12),)
LINES = (
    ("ann", ("count", "cart", 3)),
    ("bob", ("move", "cart", 9)),
    ("ann", ("move", "cart", 8)),
    ("bob", ("split", "cart", "sack", 7, 4)),
    ("ann", ("count", "sack", 1)),
    ("bob", ("take", "cart")),
)
BOOK = (START, LINES)
ALL = (0, 1, 2, 3, 4, 5)


def lifted_as_told(book, stand, wished):
    """The lifted lines by the words of point 19, gone over until nothing more comes."""
    deeds = [deed for hand, deed in book[1]]
    found = {line for line in stand if line not in wished}
    found |= {line for line in stand for other in wished
              if other not in stand and line > other and touch(deeds[line], deeds[other])}
    while True:
        more = {line for line in stand for other in found if line > other and touch(deeds[line], deeds[other])}
        if more <= found:
            return tuple(sorted(found))
        found |= more


def next_stands(book, stand):
    """Every stand to which one step leads, with the line that it takes back, or None."""
    deeds = [deed for hand, deed in book[1]]
    for number, deed in enumerate(deeds):
        if any(line > number and touch(deeds[line], deed) for line in stand):
            continue
        if number in stand:
            yield tuple(line for line in stand if line != number), number
        elif all(need in stand for need in needs(book, number)):
            yield tuple(sorted(stand + (number,))), None


def reached_without(book, stand, kept):
    """Every stand to which steps lead that never take this line back."""
    found = [stand]
    for here in found:
        found += [there for there, taken in next_stands(book, here) if taken != kept and there not in found]
    return found


class WayTest(Case):

    def check(self, book, stand, wished):
        up = self.asked(lifted, book, stand, wished)
        self.assertVery(up, lifted_as_told(book, stand, wished))
        steps = self.asked(way, book, stand, wished)
        again = [line for line in wished if line not in stand or line in up]
        self.assertVery([step[:2] for step in steps],
                        [("back", line) for line in up[::-1]] + [("again", line) for line in again])
        self.assertVery(self.walk(book, stand, steps), (wished, stand_world(book, wished)))
        return steps

    def test_written_ways(self):
        self.assertVery(self.check(BOOK, ALL, ALL), ())
        self.assertVery(self.check(BOOK, (), ()), ())
        self.assertVery(self.check(BOOK, (), (0, 2)), (("again", 0, LINES[0][1]), ("again", 2, LINES[2][1])))
        self.assertVery(self.check(BOOK, (0, 2), ()), (("back", 2, ("move", "cart", 5)), ("back", 0, ("count", "cart", -3))))
        # What is struck below others that touch it lifts these.
        self.assertVery(self.check(BOOK, (0, 1, 2, 3), (0, 2, 3)), (
            ("back", 2, ("move", "cart", 9)), ("back", 1, ("move", "cart", 5)), ("again", 2, ("move", "cart", 8))))
        # So does what is put in below them.
        self.assertVery(self.check(BOOK, (0, 2, 3), (0, 1, 2, 3)), (
            ("back", 2, ("move", "cart", 5)), ("again", 1, ("move", "cart", 9)), ("again", 2, ("move", "cart", 8))))
        self.assertVery(self.check(BOOK, ALL, (1, 2, 3, 4, 5)), (
            ("back", 5, ("put", "cart", 8, 11)), ("back", 0, ("count", "cart", -3)), ("again", 5, ("take", "cart"))))
        self.assertVery(self.check(BOOK, (3, 4), (0, 3)), (("back", 4, ("count", "sack", -1)), ("again", 0, LINES[0][1])))

    def test_written_lifts(self):
        self.assertVery(lifted(BOOK, ALL, ALL), ())
        self.assertVery(lifted(BOOK, (), ALL), ())
        self.assertVery(lifted(BOOK, ALL, ()), ALL)
        self.assertVery(lifted(BOOK, ALL, (0, 1, 2, 5)), (3, 4, 5))
        self.assertVery(lifted(BOOK, (2, 5), (1, 2, 5)), (2, 5))
        self.assertVery(lifted(BOOK, (2, 3, 4), (0, 2, 3, 4)), ())

    def test_each_stand_to_each_other(self):
        for book in small_books() + books_by_chance(61, 40, 5):
            for stand, wished in itertools.product(all_stands(book), repeat=2):
                self.check(book, stand, wished)

    def test_no_steps_take_back_fewer(self):
        for book in small_books(longest=2) + books_by_chance(62, 40, 5):
            stands = all_stands(book)
            for stand in stands:
                reached = {line: reached_without(book, stand, line) for line in stand}
                for wished in stands:
                    told = lifted(book, stand, wished)
                    self.assertVery(told, tuple(line for line in stand if wished not in reached[line]))

    def test_books_of_forty_lines(self):
        chance = random.Random(63)
        for turn in range(25):
            book = book_by_chance(chance, 40)
            numbers = range(40)
            for step in range(4):
                stand, wished = [tuple(line for line in numbers if line not in goes(book, struck)) for struck in
                                 [tuple(chance.sample(numbers, chance.choice((0, 1, 3, 8)))) for side in range(2)]]
                self.check(book, stand, wished)
                self.check(book, tuple(numbers), wished)


class RefusedTest(Case):

    def test_what_is_no_stand(self):
        for call in (lifted, way):
            for thing in ((4,), (0, 0), (2, 1), (True,), (6,), (-1,), [0], None, "0", 0, {}, ((0,),), ([],)):
                with self.subTest(call=call, thing=thing):
                    self.refused(NoStand, call, BOOK, thing, ALL)
                    self.refused(NoStand, call, BOOK, ALL, thing)
                    self.refused(NoStand, call, BOOK, thing, thing)
                    self.refused(NoStand, call, BOOK, thing, ())
                    self.refused(NoStand, call, BOOK, (), thing)


if __name__ == "__main__":
    unittest.main()
