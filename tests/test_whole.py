"""What is promised over the whole program [2, 3]."""

import copy
import itertools
import random
import unittest

from struckdeeds.books import book_world, checked_book
from struckdeeds.booktexts import read_book, show_book
from struckdeeds.checker import holds
from struckdeeds.deedtexts import show_deed
from struckdeeds.desk import Desk
from struckdeeds.joins import carried, joined, shared
from struckdeeds.logs import Log
from struckdeeds.papers import paper_changes, paper_goes, paper_joined, paper_lifted, paper_rows, paper_way
from struckdeeds.pasts import put_in
from struckdeeds.strikes import chains, goes, left
from struckdeeds.ways import lifted, way
from struckdeeds.worldtexts import show_world
from tests.helper import (CART_BOOK, Case, all_stands, book_by_chance, books_by_chance, books_of_two_hands, is_book, part,
                          small_books, subsets)


def without(book, going):
    """The numbers of the lines that don't go."""
    return tuple(line for line in range(len(book[1])) if line not in going)


def log_of(book):
    """A log to which the book's lines were told."""
    log = Log(book[0])
    for line in book[1]:
        log.tell(*line)
    return log


def desk_of(book):
    """A desk that keeps, by the name d, a log to which the book's lines were told."""
    desk = Desk()
    desk.say("log d " + show_world(book[0]))
    for hand, deed in book[1]:
        desk.say(f"do d {hand} {show_deed(deed)}")
    return desk


class StruckTest(Case):

    def struck(self, book, struck):
        """All that is told of these lines, struck: one answer held against the others, each with its paper taken."""
        numbers = without(book, ())
        going, wished = goes(book, struck), without(book, goes(book, struck))
        self.assertTrue(holds(*paper_goes(book, struck)))
        self.assertTrue(holds(*paper_way(book, numbers, wished)))
        self.assertTrue(all(holds(*told) for told in paper_lifted(book, numbers, wished)))
        steps = way(book, numbers, wished)
        self.assertVery(self.walk(book, numbers, steps), (wished, book_world(left(book, struck))))
        self.assertVery(tuple(sorted(step[1] for step in steps if step[0] == "back")), lifted(book, numbers, wished))
        self.assertTrue(set(going) <= set(lifted(book, numbers, wished)))
        return going, steps

    def by_log(self, book, struck, steps):
        """The same by a log and by a desk, struck one behind the other, put back in its order, or come back to."""
        log, desk, going = log_of(book), desk_of(book), goes(book, struck)
        log.mark("all")
        desk.say("mark d all")
        for line in struck:
            if line in log.stand():
                went = log.strike(line)
                self.assertVery(desk.say(f"strike d {line}"), " ".join(str(other) for other in went))
        self.assertVery(log.book(), left(book, struck))
        self.assertVery(desk.say("book d"), show_book(left(book, struck)).replace("\n", "; "))
        self.assertVery(desk.say("world d"), show_world(book_world(left(book, struck))))
        log.mark("less")
        for line in going:
            self.assertVery(log.put_back(line), ())
            self.assertVery(desk.say(f"restore d {line}"), "-")
        self.assertVery((log.book(), log.world()), (book, book_world(book)))
        self.assertVery(desk.say("book d"), show_book(book).replace("\n", "; "))
        self.assertVery(log.come_back("less"), steps)
        self.assertVery(log.come_back("all"), way(book, without(book, going), without(book, ())))
        self.assertVery(log.book(), book)

    def test_small_books(self):
        for book in small_books()[::11] + books_by_chance(151, 25, 6):
            leaving = [set(some) for some in subsets(range(len(book[1]))) if is_book(*part(book, without(book, some)))]
            for struck in subsets(range(len(book[1]))):
                going, steps = self.struck(book, struck)
                holding = [some for some in leaving if some >= set(struck)]
                self.assertIn(set(going), holding)
                self.assertTrue(all(set(going) <= some for some in holding))
                self.by_log(book, struck, steps)

    def test_either_order(self):
        for book in books_by_chance(152, 30, 6):
            for struck in itertools.permutations(range(len(book[1])), 2):
                self.by_log(book, struck, way(book, without(book, ()), without(book, goes(book, struck))))

    def test_books_of_forty_lines(self):
        chance = random.Random(153)
        for turn in range(4):
            book = book_by_chance(chance, 40)
            struck = tuple(chance.sample(range(40), 3))
            self.by_log(book, struck, self.struck(book, struck)[1])
            self.assertVery(read_book(show_book(book)), book)


class OneAnswerTest(Case):

    def test_what_the_desk_tells_of_papers(self):
        for book in books_by_chance(154, 20, 10):
            desk = desk_of(book)
            for line in range(len(book[1])):
                self.assertVery(desk.say(f"paper d {line}"), "holds")

    def test_what_is_joined_or_carried(self):
        for one, other in books_of_two_hands(155, 150, 8):
            self.assertTrue(holds(*paper_joined(one, other)))
            word, told = joined(one, other)
            new, gone = carried(one, other)
            # Where nothing goes, the carried book is one of the joined ones.
            self.assertEqual(holds(("joined", one, other), new), gone == ())
            if gone == ():
                self.assertEqual(word, "joined")
                self.assertVery(checked_book(new), new)

    def test_a_line_put_in_at_the_end_is_told_to_the_log(self):
        for book in books_by_chance(156, 40, 8):
            log = log_of(book)
            log.tell("cy", ("put", "zz", 5, 5))
            self.assertVery(put_in(book, len(book[1]), "cy", ("put", "zz", 5, 5)), (log.book(), ()))

    def test_rows_that_change_places_are_alike(self):
        for book in books_by_chance(157, 40, 6):
            row = tuple(deed for hand, deed in book[1])
            for other in itertools.islice(itertools.permutations(row), 30):
                told = paper_changes(row, other)
                self.assertTrue(holds(*told) and holds(*paper_rows(row, other)))
                if told[0][0] == "changes":
                    self.assertEqual(paper_rows(row, other)[0][0], "alike")


class KeptTest(Case):

    def test_what_was_told_stays_as_it_was(self):
        log, desk = log_of(CART_BOOK), desk_of(CART_BOOK)
        calls = [log.lines, log.stand, log.world, log.book, lambda: log.mark("all"), lambda: log.strike(2),
                 lambda: log.undo("bob"), lambda: log.put_back(2), lambda: log.come_back("all"),
                 lambda: log.tell("cy", ("put", "zz", 1, 1)), lambda: log.strike(0), lambda: log.come_back("all"),
                 lambda: paper_goes(log.book(), (2,)), lambda: put_in(log.book(), 1, "cy", ("take", "a")),
                 lambda: paper_way(CART_BOOK, log.stand(), (0, 1)), lambda: carried(CART_BOOK, log.book()),
                 lambda: desk.say("stand d"), lambda: desk.say("strike d 0"), lambda: desk.say("book d")]
        kept = []
        for call in calls + [log.lines, log.stand, log.world, log.book]:
            told = call()
            kept.append((told, copy.deepcopy(told)))
        for told, before in kept:
            self.assertVery(told, before)

    def test_each_question_asked_twice(self):
        stands = all_stands(CART_BOOK)
        for call in (goes, chains, left, paper_goes):
            for struck in stands:
                self.asked(call, CART_BOOK, struck)
        for call in (lifted, way, paper_way, paper_lifted):
            for stand, wished in itertools.product(stands[::3], repeat=2):
                self.asked(call, CART_BOOK, stand, wished)
        for call in (shared, joined, carried, paper_joined):
            for one, other in books_of_two_hands(158, 30, 6):
                self.asked(call, one, other)


if __name__ == "__main__":
    unittest.main()
