"""Logs: lines told, struck, put back and undone, and marks [20, 21, 22]."""

import copy
import random
import unittest

from struckdeeds.books import checked_book, needs
from struckdeeds.deeds import ended_by, made_by, must_stand
from struckdeeds.errors import NoDeed, NoLine, NoMark, NoName, NoNeed, NotNow, StrikeError
from struckdeeds.logs import Log
from struckdeeds.stands import stand_world
from struckdeeds.ways import way
from tests.helper import (CART_BOOK, NO_DEEDS, NO_NUMBERS, ODD_THINGS, Case, behind, book_by_chance, deeds_over,
                          is_book, part, subsets, worlds_over)

START, LINES = CART_BOOK


def log_of(start, lines):
    log = Log(start)
    for hand, deed in lines:
        log.tell(hand, deed)
    return log


def state(log):
    """All that a log tells without being changed."""
    return log.lines(), log.stand(), log.world(), log.book()


class LogCase(Case):

    def check_state(self, log, start, lines, stand):
        """What the log tells of these lines, of which these stand."""
        self.assertVery(log.lines(), lines)
        self.assertVery(log.stand(), stand)
        self.assertVery(log.book(), part((start, lines), stand))
        self.assertVery(checked_book(log.book()), log.book())
        self.assertVery(log.world(), behind(start, tuple(lines[line][1] for line in stand)))

    def barred(self, log, error, call, *arguments):
        """The error of a refusal behind which the log is as it was."""
        before = copy.deepcopy(state(log))
        refusal = self.refused(error, call, *arguments)
        self.assertVery(state(log), before)
        return refusal


class TellTest(LogCase):

    def test_a_log_of_no_lines(self):
        for start in ((), START):
            self.check_state(Log(start), start, (), ())

    def test_numbers_and_lines(self):
        log = Log(START)
        for number, (hand, deed) in enumerate(LINES):
            self.assertVery(log.tell(hand, deed), number)
            self.check_state(log, START, LINES[:number + 1], tuple(range(number + 1)))
        self.assertVery(log.world(), (("c", 3, 5), ("cart", 5, 11)))

    def test_forty_lines(self):
        chance = random.Random(81)
        for turn in range(10):
            start, lines = book_by_chance(chance, 40)
            self.check_state(log_of(start, lines), start, lines, tuple(range(40)))

    def test_behind_lines_that_do_not_stand(self):
        log = log_of(START, LINES)
        log.strike(2)
        self.assertVery(log.tell("cy", ("count", "a", 7)), 6)
        self.check_state(log, START, LINES + (("cy", ("count", "a", 7)),), (0, 1, 3, 6))

    def test_hands_that_are_none(self):
        log = log_of(START, LINES)
        for thing in ODD_THINGS + [0, 7, ["ann"], ("ann", "bob")]:
            for deed in (("put", "x", 1, 1), None, ("put", "a", 1, 1), ("take", "a")):
                self.assertVery(self.barred(log, NoName, log.tell, thing, deed).name, thing)

    def test_what_is_no_deed(self):
        log = log_of(START, LINES)
        for thing in NO_DEEDS + ODD_THINGS:
            self.barred(log, NoDeed, log.tell, "ann", thing)

    def test_names_that_were_made(self):
        log = log_of(START, LINES)
        for struck in (None, 4, 3, 0, 2):
            if struck is not None:
                log.strike(struck)
            # Whether it stands or not, has ended, and whatever else hinders it.
            for name in ("cart", "a", "b", "c"):
                for deed in (("put", name, 1, 1), ("name", "zz", name), ("split", "zz", name, 1, 1)):
                    self.assertVery(self.barred(log, NoName, log.tell, "ann", deed).name, name)

    def test_not_now(self):
        log = log_of(START, LINES)
        for deed, name in ((("take", "a"), "a"), (("count", "b", 1), "b"), (("move", "zz", 1), "zz"),
                           (("join", "c", "a"), "a"), (("join", "a", "b"), "a"), (("name", "b", "x"), "b"),
                           (("split", "zz", "x", 1, 1), "zz")):
            self.assertVery(self.barred(log, NotNow, log.tell, "ann", deed).name, name)
        log.strike(5)
        self.assertVery(self.barred(log, NotNow, log.tell, "ann", ("take", "c")).name, "c")
        self.assertVery(log.tell("ann", ("take", "b")), 6)


class StrikeTest(LogCase):

    def test_what_goes(self):
        for number, told in enumerate([(0, 3, 4), (1,), (2, 4, 5), (3,), (4,), (5,)]):
            log = log_of(START, LINES)
            self.assertVery(log.strike(number), told)
            self.check_state(log, START, LINES, tuple(line for line in range(6) if line not in told))

    def test_only_what_stands_goes(self):
        log = log_of(START, LINES)
        self.assertVery(log.strike(3), (3,))
        self.assertVery(log.strike(4), (4,))
        self.assertVery(log.strike(0), (0,))
        self.assertVery(log.strike(2), (2, 5))
        self.check_state(log, START, LINES, (1,))

    def test_what_is_no_line_that_stands(self):
        log = log_of(START, LINES)
        log.strike(0)
        for thing in NO_NUMBERS + [6, -6, 0, 3, 4]:
            self.assertVery(self.barred(log, NoLine, log.strike, thing).line, thing)
        log = Log(START)
        self.assertVery(self.barred(log, NoLine, log.strike, 0).line, 0)
        # Line 1 doesn't stand, and True is no number of it either way.
        log = log_of(START, LINES)
        self.assertIs(self.barred(log, NoLine, log.strike, True).line, True)
        log.strike(1)
        self.assertIs(self.barred(log, NoLine, log.put_back, True).line, True)


class PutBackTest(LogCase):

    def test_as_it_was(self):
        for number in range(6):
            log = log_of(START, LINES)
            before = state(log)
            for line in log.strike(number):
                self.assertVery(log.put_back(line), ())
            self.assertVery(state(log), before)

    def test_what_is_no_line_that_does_not_stand(self):
        log = log_of(START, LINES)
        log.strike(0)
        for thing in NO_NUMBERS + [6, -6, 1, 2, 5]:
            self.assertVery(self.barred(log, NoLine, log.put_back, thing).line, thing)
        log = Log(START)
        self.assertVery(self.barred(log, NoLine, log.put_back, 0).line, 0)

    def test_needs(self):
        log = log_of(START, LINES)
        log.strike(0)
        self.assertVery(self.barred(log, NoNeed, log.put_back, 3).line, 0)
        self.assertVery(self.barred(log, NoNeed, log.put_back, 4).line, 0)
        log.strike(2)
        # It needs 0 and 2, by the names b and a: the least line is told.
        self.assertVery(self.barred(log, NoNeed, log.put_back, 4).line, 0)
        self.assertVery(log.put_back(0), ())
        self.assertVery(self.barred(log, NoNeed, log.put_back, 4).line, 2)
        self.assertVery(log.put_back(2), ())
        self.assertVery(log.put_back(4), ())
        self.check_state(log, START, LINES, (0, 1, 2, 4))

    def test_names_that_a_line_ahead_has_ended(self):
        log = log_of(START, (("ann", ("put", "a", 1, 1)), ("ann", ("take", "a"))))
        log.strike(1)
        log.tell("bob", ("join", "cart", "a"))
        log.strike(2)
        log.put_back(1)
        # Line 1 has ended a ahead of line 2.
        self.assertVery(self.barred(log, NotNow, log.put_back, 2).name, "a")
        log.strike(1)
        self.assertVery(log.put_back(2), ())
        # Line 2 ends a behind line 1, so it is line 2 that goes.
        self.assertVery(log.put_back(1), (2,))
        self.check_state(log, START, log.lines(), (0, 1))

    def test_the_first_name_is_told(self):
        start = (("a", 1, 1), ("b", 2, 2))
        for deed in (("join", "a", "b"), ("join", "b", "a")):
            log = log_of(start, (("h", ("take", "a")), ("h", ("take", "b"))))
            log.strike(0)
            log.strike(1)
            log.tell("h", deed)
            log.strike(2)
            log.put_back(0)
            self.assertVery(self.barred(log, NotNow, log.put_back, 2).name, "a")
            log.put_back(1)
            self.assertVery(self.barred(log, NotNow, log.put_back, 2).name, deed[1])

    def test_needs_come_ahead_of_names(self):
        log = log_of(START, (("h", ("take", "cart")),))
        log.strike(0)
        log.tell("h", ("put", "a", 1, 1))
        log.tell("h", ("join", "cart", "a"))
        log.strike(1)
        log.put_back(0)
        self.assertVery(self.barred(log, NoNeed, log.put_back, 2).line, 1)
        log.put_back(1)
        self.assertVery(self.barred(log, NotNow, log.put_back, 2).name, "cart")

    def test_what_goes_where_a_name_is_ended(self):
        log = log_of(START, (("ann", ("take", "cart")),))
        log.strike(0)
        log.tell("bob", ("split", "cart", "a", 1, 1))
        log.tell("bob", ("count", "a", 1))
        log.tell("bob", ("put", "b", 1, 1))
        log.tell("bob", ("join", "b", "a"))
        log.tell("bob", ("count", "b", 1))
        log.tell("bob", ("move", "cart", 1))
        log.strike(2)
        self.assertVery(log.put_back(0), (1, 4, 6))
        self.check_state(log, START, log.lines(), (0, 3, 5))

    def test_a_line_that_was_named_anew(self):
        log = log_of(START, (("ann", ("name", "cart", "a")),))
        log.strike(0)
        log.tell("bob", ("count", "cart", 1))
        self.assertVery(log.put_back(0), (1,))
        self.assertVery(log.world(), (("a", 5, 12),))
        self.assertVery(self.barred(log, NotNow, log.put_back, 1).name, "cart")


class UndoTest(LogCase):

    def test_each_hand(self):
        log = log_of(START, LINES)
        self.assertVery(log.undo("bob"), (5,))
        self.assertVery(log.undo("bob"), (3,))
        self.assertVery(log.undo("ann"), (4,))
        self.assertVery(log.undo("ann"), (2,))
        self.assertVery(log.undo("ann"), (0,))
        self.assertIsNone(self.barred(log, NoLine, log.undo, "ann").line)
        self.check_state(log, START, LINES, (1,))
        self.assertVery(log.undo("bob"), (1,))
        self.check_state(log, START, LINES, ())
        self.assertVery(log.put_back(1), ())
        self.assertVery(log.undo("bob"), (1,))

    def test_what_goes_with_it(self):
        log = log_of(START, LINES[:2] + (("cy", LINES[2][1]),) + LINES[3:])
        self.assertVery(log.undo("cy"), (2, 4, 5))
        self.assertVery(log.undo("ann"), (0, 3))

    def test_hands_without_lines(self):
        for log in (Log(()), log_of(START, LINES)):
            for thing in ODD_THINGS + ["cy", "an", "annn", 0, 5, ["ann"], ("ann",), b"ann", LINES[0]]:
                self.assertIsNone(self.barred(log, NoLine, log.undo, thing).line)


class MarkTest(LogCase):

    def test_marks(self):
        log = Log(START)
        self.assertIsNone(log.mark("none"))
        for hand, deed in LINES:
            log.tell(hand, deed)
        self.assertIsNone(log.mark("all"))
        log.strike(2)
        self.assertIsNone(log.mark("some"))
        self.check_state(log, START, LINES, (0, 1, 3))
        self.assertVery(log.come_back("some"), ())
        self.assertVery(log.come_back("all"), tuple(("again", line, LINES[line][1]) for line in (2, 4, 5)))
        self.check_state(log, START, LINES, tuple(range(6)))
        self.assertVery(log.come_back("none"), (
            ("back", 5, ("name", "c", "b")), ("back", 4, ("split", "b", "a", 1, 2)), ("back", 3, ("count", "a", -1)),
            ("back", 2, ("join", "cart", "b")), ("back", 1, ("count", "cart", -2)), ("back", 0, ("take", "a"))))
        self.check_state(log, START, LINES, ())
        self.assertVery(log.come_back("none"), ())

    def test_a_mark_set_anew(self):
        log = log_of(START, LINES)
        log.mark("here")
        log.strike(1)
        log.mark("here")
        log.strike(0)
        log.come_back("here")
        self.check_state(log, START, LINES, (0, 2, 3, 4, 5))

    def test_lines_told_behind_a_mark_go(self):
        log = log_of(START, LINES)
        log.mark("here")
        log.tell("cy", ("take", "cart"))
        log.tell("cy", ("put", "cow", 1, 1))
        self.assertVery(log.come_back("here"), (("back", 7, ("take", "cow")), ("back", 6, ("put", "cart", 5, 11))))
        self.check_state(log, START, LINES + (("cy", ("take", "cart")), ("cy", ("put", "cow", 1, 1))), tuple(range(6)))
        self.assertVery(log.tell("cy", ("put", "dog", 1, 1)), 8)

    def test_by_lines_that_are_no_book_all_together(self):
        log = log_of(START, (("ann", ("take", "cart")),))
        log.mark("gone")
        log.strike(0)
        log.tell("bob", ("count", "cart", 5))
        log.mark("there")
        self.assertVery(log.come_back("gone"), (("back", 1, ("count", "cart", -5)), ("again", 0, ("take", "cart"))))
        self.check_state(log, START, log.lines(), (0,))
        self.assertVery(log.come_back("there"), (("back", 0, ("put", "cart", 5, 12)), ("again", 1, ("count", "cart", 5))))
        self.check_state(log, START, log.lines(), (1,))

    def test_the_way_is_that_between_the_stands_of_a_book(self):
        chance = random.Random(82)
        for turn in range(30):
            book = book_by_chance(chance, 20)
            log = log_of(*book)
            for number in chance.sample(range(20), 3):
                if number in log.stand():
                    log.strike(number)
            log.mark("here")
            wished = log.stand()
            for number in range(20):
                if number not in log.stand() and all(need in log.stand() for need in needs(book, number)):
                    log.put_back(number)
            stand = log.stand()
            self.assertVery(log.come_back("here"), way(book, stand, wished))
            self.assertVery(log.world(), stand_world(book, wished))

    def test_names_that_are_none(self):
        log = log_of(START, LINES)
        for thing in ODD_THINGS + [0, 5, ["all"], ("all",), "ninechars", "a1"]:
            self.assertVery(self.barred(log, NoName, log.mark, thing).name, thing)
            self.assertVery(self.barred(log, NoMark, log.come_back, thing).name, thing)

    def test_marks_that_were_never_set(self):
        log = log_of(START, LINES)
        self.assertVery(self.barred(log, NoMark, log.come_back, "here").name, "here")
        log.mark("here")
        log.come_back("here")
        for name in ("her", "heres", "there", "ann", "a"):
            self.assertVery(self.barred(log, NoMark, log.come_back, name).name, name)


class Model:
    """A log by the plain words of the document, for small logs: what goes is found by trying all sets."""

    def __init__(self, start):
        self.start, self.told, self.standing, self.marks = start, (), (), {}

    def settle(self, stand, going, kept=()):
        """The least set that holds the going ones, not the kept, and without which the stand is a book: it goes."""
        sets = [set(some) for some in subsets(stand) if set(going) <= set(some) and not set(kept) & set(some)
                and is_book(*part((self.start, self.told), [line for line in stand if line not in some]))]
        least = set.intersection(*sets)
        assert least in sets
        self.standing = tuple(line for line in stand if line not in least)
        return tuple(sorted(least))

    def tell(self, hand, deed):
        made = made_by(deed)
        taken = [thing[0] for thing in self.start] + [made_by(other) for owner, other in self.told]
        if made and made in taken:
            return NoName, made
        world = behind(self.start, tuple(self.told[line][1] for line in self.standing))
        for name in must_stand(deed):
            if name not in [thing[0] for thing in world]:
                return NotNow, name
        self.told += ((hand, deed),)
        self.standing += (len(self.told) - 1,)
        return len(self.told) - 1

    def strike(self, number):
        return self.settle(self.standing, [number]) if number in self.standing else (NoLine, number)

    def put_back(self, number):
        if number in self.standing or number >= len(self.told):
            return NoLine, number
        asked = must_stand(self.told[number][1])
        for other, (hand, deed) in enumerate(self.told):
            if made_by(deed) in asked and other not in self.standing:
                return NoNeed, other
        for name in asked:
            if any(ended_by(self.told[other][1]) == name for other in self.standing if other < number):
                return NotNow, name
        return self.settle(tuple(sorted(self.standing + (number,))), (), (number,))

    def undo(self, hand):
        own = [line for line in self.standing if self.told[line][0] == hand]
        return self.settle(self.standing, own[-1:]) if own else (NoLine, None)

    def mark(self, name):
        self.marks[name] = self.standing

    def come_back(self, name):
        if name not in self.marks:
            return NoMark, name
        self.standing = self.marks[name]
        return None


class ModelTest(LogCase):

    def call(self, log, word, arguments):
        """What the log tells, or the class of its refusal with the field; a refusal changes nothing."""
        before = copy.deepcopy(state(log))
        try:
            return getattr(log, word)(*arguments)
        except StrikeError as refusal:
            self.assertVery(state(log), before)
            return type(refusal), list(vars(refusal).values())[0]

    def random_call(self, chance, deeds):
        word = chance.choice(("tell", "tell", "tell", "strike", "put_back", "put_back", "undo", "mark", "come_back"))
        if word == "tell":
            return word, (chance.choice(("ann", "bob")), chance.choice(deeds))
        if word in ("strike", "put_back"):
            return word, (chance.randrange(9),)
        return word, (chance.choice(("ann", "bob")),)

    def test_logs_by_chance(self):
        chance = random.Random(83)
        seen = {}
        for turn in range(150):
            start = chance.choice(worlds_over("ab"))
            log, model, deeds = Log(start), Model(start), deeds_over("abcd")
            for step in range(40):
                if len(log.lines()) > 8:
                    deeds = [("take", "q")]
                word, arguments = self.random_call(chance, deeds)
                stand = log.stand()
                wished = getattr(model, word)(*arguments)
                told = self.call(log, word, arguments)
                seen[word, isinstance(told, tuple) and told and isinstance(told[0], type) and told[0]] = True
                if word == "come_back" and wished is None:
                    self.assertVery(self.walk((start, log.lines()), stand, told), (model.standing, log.world()))
                else:
                    self.assertVery(told, wished)
                self.check_state(log, start, model.told, model.standing)
        for word, error in (("tell", NoName), ("tell", NotNow), ("strike", NoLine), ("put_back", NoLine),
                            ("put_back", NoNeed), ("put_back", NotNow), ("undo", NoLine), ("come_back", NoMark)):
            self.assertIn((word, error), seen)


class KeptTest(LogCase):

    def test_what_was_told_stays(self):
        log = log_of(START, LINES)
        log.mark("here")
        told = [log.strike(0), log.put_back(0), log.undo("bob"), log.come_back("here"), *state(log)]
        before = copy.deepcopy(told)
        log.strike(2)
        log.tell("cy", ("take", "cart"))
        log.mark("here")
        log.strike(0)
        log.come_back("here")
        self.assertVery(told, before)

    def test_two_logs_do_not_know_of_one_another(self):
        one, other = Log(START), Log(START)
        one.tell("ann", ("take", "cart"))
        one.mark("here")
        self.check_state(other, START, (), ())
        self.refused(NoMark, other.come_back, "here")
        other.tell("bob", ("put", "a", 1, 1))
        other.strike(0)
        self.check_state(one, START, (("ann", ("take", "cart")),), (0,))
        self.assertVery(one.tell("ann", ("put", "a", 1, 1)), 1)


if __name__ == "__main__":
    unittest.main()
