"""The desk: rows of words and their answers [29]."""

import random
import unittest
import unittest.mock

from struckdeeds.booktexts import show_book
from struckdeeds.checker import holds
from struckdeeds.deedtexts import show_deed
from struckdeeds.desk import Desk
from struckdeeds.errors import (NoCall, NoDeed, NoLine, NoLog, NoMark, NoName, NoNeed, NotNow, NoText, StrikeError)
from struckdeeds.logs import Log
from struckdeeds.papers import paper_goes
from struckdeeds.worldtexts import show_world
from tests.helper import ODD_THINGS, Case, deeds_over, fresh_names, more_lines, worlds_over

DEEDS = deeds_over("abcd")

# Rows and their answers, one behind the other.
TALK = [
    ("log mill cart@5:12", "ok"),
    ("world mill", "cart@5:12"), ("stand mill", "-"), ("book mill", "start cart@5:12"),
    ("do mill ann put a 1 1", "0"), ("do mill bob split cart b 3 3", "1"), ("do mill ann join b a", "2"),
    ("do mill bob count cart -4", "3"),
    ("stand mill", "0 1 2 3"), ("world mill", "b@3:4, cart@5:5"),
    ("book mill", "start cart@5:12; ann: put a 1 1; bob: split cart b 3 3; ann: join b a; bob: count cart -4"),
    ("paper mill 0", "holds"), ("paper mill 1", "holds"), ("paper mill 2", "holds"), ("paper mill 3", "holds"),
    ("mark mill noon", "ok"),
    ("strike mill 1", "1 2"), ("stand mill", "0 3"), ("world mill", "a@1:1, cart@5:8"),
    ("book mill", "start cart@5:12; ann: put a 1 1; bob: count cart -4"), ("paper mill 1", "holds"),
    ("back mill noon", "0 2"), ("stand mill", "0 1 2 3"), ("back mill noon", "0 0"),
    ("undo mill bob", "3"), ("undo mill bob", "1 2"), ("undo mill ann", "0"), ("stand mill", "-"),
    ("book mill", "start cart@5:12"), ("world mill", "cart@5:12"),
    ("restore mill 0", "-"), ("restore mill 1", "-"), ("do mill cy take a", "4"), ("restore mill 2", "4"),
    ("stand mill", "0 1 2"), ("back mill noon", "0 1"), ("mark mill noon", "ok"), ("strike mill 3", "3"),
    ("back mill noon", "0 1"), ("do mill cy move cart 9", "5"), ("do mill cy move cart 8", "6"), ("mark mill eve", "ok"),
    ("strike mill 5", "5"), ("back mill eve", "1 2"), ("back mill noon", "2 0"),
    ("log mill -", "ok"), ("stand mill", "-"), ("world mill", "-"), ("book mill", "start -"),
    ("do mill h put cart 0 0", "0"), ("world mill", "cart@0:0"),
]

# Rows that are none, whatever logs stand.
NO_CALLS = [
    "", " ", "  ", "\n", "a", "mill", "logs mill -", "Log mill -", "LOG mill -", "say mill", "tell mill ann take a",
    "put_back mill 0", "putback mill 0", "lines mill", "come mill noon", "strikes mill 0", "-", "0", "ok",
    # Words fewer.
    "log", "log mill", "mark", "mark mill", "do", "do mill", "do mill ann", "strike", "strike mill", "restore",
    "restore mill", "undo", "undo mill", "back", "back mill", "world", "stand", "book", "paper", "paper mill",
    # Words more.
    "mark mill noon eve", "strike mill 0 1", "restore mill 0 0", "undo mill ann bob", "back mill noon noon",
    "world mill mill", "stand mill 0", "book mill 0", "paper mill 0 0",
    # Blanks ahead, at the end, two of them; line ends.
    " world mill", "world mill ", "world  mill", "world mill\n", "\nworld mill", "world\nmill", "world\tmill", "world ",
    "stand ", "stand mill ", "stand  mill", "book mill ", " book mill", "strike mill 0 ", "strike  mill 0", "strike mill  0",
    "strike mill ", "strike mill 0\n", "paper mill 0 ", "paper mill  0", "restore mill  0", "mark mill  noon",
    "mark mill noon ", "mark mill ", "undo mill ", "undo mill ann ", "undo mill  ann", "back mill ", "back mill noon ",
    "do mill  put x 1 1", "do  mill ann put x 1 1", " do mill ann put x 1 1", "do mill ", "log  mill -", "log ", "log  -",
    " log mill -",
    # Names that are none.
    "log Mill -", "log millstone -", "log 1 -", "log mill1 -", "log mill, -", "world Mill", "world millstone", "world 5",
    "world -", "do Mill ann put x 1 1", "do mill Ann put x 1 1", "do mill ninechars put x 1 1", "do mill 5 put x 1 1",
    "do mill ann: put x 1 1", "mark mill Noon", "mark mill ninechars", "mark mill 0", "mark Mill noon", "back mill Noon",
    "back mill 5", "back Mill noon", "undo mill Ann", "undo mill 0", "undo Mill ann", "strike Mill 0", "paper Mill 0",
    "restore Mill 0", "stand Mill", "book Mill",
    # Numbers that are none.
    "strike mill 00", "strike mill 01", "strike mill 001", "strike mill 1000", "strike mill 0000", "strike mill -1",
    "strike mill -0", "strike mill +1", "strike mill a", "strike mill 1a", "strike mill 1.", "strike mill 0x1",
    "strike mill 1_0", "strike mill \u0661", "strike mill \u00b2", "strike mill " + "1" * 3000, "restore mill 00",
    "restore mill 1000", "restore mill -1", "restore mill a", "paper mill 00", "paper mill 01", "paper mill 1000",
    "paper mill -1", "paper mill a", "paper mill -",
]


def desk_of(*rows):
    """A desk to which these rows were said."""
    desk = Desk()
    for row in rows:
        desk.say(row)
    return desk


def seen(desk, name):
    """All that a log of the desk shows."""
    return [desk.say(word + " " + name) for word in ("stand", "world", "book")]


MILL = ("log mill cart@5:12", "do mill ann put a 1 1", "do mill bob count a 1", "mark mill noon", "strike mill 1")


class DeskTest(Case):

    def said(self, desk, row):
        told = desk.say(row)
        self.assertIs(type(told), str)
        return told

    def test_written_talk(self):
        desk = Desk()
        for row, answer in TALK:
            with self.subTest(row=row):
                self.assertVery(self.said(desk, row), answer)

    def test_numbers_of_several_figures(self):
        desk = desk_of("log a x@1:1")
        for number in range(40):
            self.assertVery(self.said(desk, "do a ann count x 1"), str(number))
        self.assertVery(desk.say("stand a"), " ".join(str(number) for number in range(40)))
        self.assertVery([desk.say("strike a 39"), desk.say("strike a 10"), desk.say("paper a 37")], ["39", "10", "holds"])
        self.assertVery(self.refused(NoLine, desk.say, "paper a 38").line, 38)
        self.assertVery(self.refused(NoLine, desk.say, "strike a 999").line, 999)

    def test_logs_apart_from_one_another(self):
        desk = desk_of(*MILL)
        desk.say("log yard -")
        self.assertVery(seen(desk, "yard"), ["-", "-", "start -"])
        desk.say("do yard cy put z 1 1")
        self.assertVery(seen(desk, "mill"), ["0", "a@1:1, cart@5:12", "start cart@5:12; ann: put a 1 1"])
        self.assertVery(self.refused(NoMark, desk.say, "back yard noon").name, "noon")
        desk.say("strike yard 0")
        self.assertVery(desk.say("stand mill"), "0")
        self.assertVery(desk.say("back mill noon"), "0 1")

    def test_desks_apart_from_one_another(self):
        one, other = desk_of(*MILL), Desk()
        self.assertVery(self.refused(NoLog, other.say, "world mill").name, "mill")
        other.say("log mill -")
        self.assertVery([one.say("world mill"), other.say("world mill")], ["a@1:1, cart@5:12", "-"])

    def test_a_log_set_anew(self):
        desk = desk_of(*MILL)
        self.assertVery(desk.say("log mill b@2:2"), "ok")
        self.assertVery(seen(desk, "mill"), ["-", "b@2:2", "start b@2:2"])
        self.assertVery(self.refused(NoMark, desk.say, "back mill noon").name, "noon")
        self.assertVery(self.refused(NoLine, desk.say, "restore mill 1").line, 1)

    def test_a_mark_set_anew(self):
        desk = desk_of(*MILL)
        self.assertVery(desk.say("mark mill noon"), "ok")
        desk.say("restore mill 1")
        self.assertVery(desk.say("back mill noon"), "1 0")

    def test_papers_by_the_book_that_stands(self):
        desk = desk_of("log a -", "do a h put x 1 1", "do a h put y 1 1", "do a h count y 1", "strike a 0")
        self.assertVery([desk.say("paper a 0"), desk.say("paper a 1")], ["holds", "holds"])
        for line in (2, 3, 999):
            self.assertVery(self.refused(NoLine, desk.say, f"paper a {line}").line, line)
        desk.say("strike a 1")
        self.assertVery(self.refused(NoLine, desk.say, "paper a 0").line, 0)
        self.assertVery(desk.say("stand a"), "-")

    def test_a_paper_that_the_checker_does_not_take(self):
        desk = desk_of("log a -", "do a h put x 1 1")
        with unittest.mock.patch("struckdeeds.desk.holds", lambda claim, paper: False):
            self.assertVery(desk.say("paper a 0"), "no")
        with unittest.mock.patch("struckdeeds.desk.paper_goes", lambda book, struck: (("goes", book, struck, ()), ())):
            self.assertVery(desk.say("paper a 0"), "no")


class RefusedTest(Case):

    def refusals(self, desk, error, field, rows):
        """Each row is refused with this error and field, and changes nothing."""
        before = seen(desk, "mill")
        for row, thing in rows:
            with self.subTest(row=row):
                refusal = self.refused(error, desk.say, row)
                self.assertVery(getattr(refusal, field) if field else None, thing)
                self.assertVery(seen(desk, "mill"), before)

    def test_no_calls(self):
        things = NO_CALLS + [thing for thing in ODD_THINGS if not isinstance(thing, str)]
        things += [0, ["world mill"], b"world mill", ("world", "mill"), {"world": "mill"}]
        self.refusals(desk_of(*MILL), NoCall, "row", [(thing, thing) for thing in things])
        for thing in things:
            self.assertVery(self.refused(NoCall, Desk().say, thing).row, thing)

    def test_no_logs(self):
        rows = ["mark yard noon", "do yard ann take a", "do yard ann ", "do yard ann nothing", "strike yard 0",
                "restore yard 0", "undo yard ann", "back yard noon", "world yard", "stand yard", "book yard",
                "paper yard 0", "paper yard 999"]
        self.refusals(desk_of(*MILL), NoLog, "name", [(row, "yard") for row in rows])
        for row in rows:
            self.assertVery(self.refused(NoLog, Desk().say, row).name, "yard")

    def test_no_texts(self):
        rows = [("do mill ann " + text, None) for text in (
            "", " ", "take", "take a ", " take a", "take  a", "Take a", "put a 1", "put x 1 01", "put x 1000 1", "name a a",
            "nothing", "ann: take a", "take a\n", "put x 1 1 1", "put x 1 -0", "count a +1")]
        rows += [("log mill " + text, part) for text, part in (
            ("", 0), (" ", 0), (" -", 0), ("- ", 0), ("a", 0), ("a@1", 0), ("a@1:1 ", 0), ("a@1:1, ", 1), ("a@1:1,b@1:1", 0),
            ("a@1:1, a@1:1", 1), ("b@1:1, a@1:1", 1), ("a@1000:1", 0), ("a@01:1", 0), ("a@1:1, b@1:1, c", 2),
            ("start -", 0), ("-\n", 0))]
        self.refusals(desk_of(*MILL), NoText, "part", rows)

    def test_a_log_that_is_refused_is_none(self):
        desk = Desk()
        self.assertVery(self.refused(NoText, desk.say, "log mill ").part, 0)
        self.assertVery(self.refused(NoLog, desk.say, "world mill").name, "mill")

    def test_what_the_log_refuses(self):
        desk = desk_of(*MILL)
        self.refusals(desk, NoName, "name", [
            ("do mill ann put cart 1 1", "cart"), ("do mill ann put a 1 1", "a"), ("do mill ann name zz a", "a"),
            ("do mill ann split cart a 1 1", "a")])
        self.refusals(desk, NotNow, "name", [
            ("do mill ann take zz", "zz"), ("do mill ann name zz x", "zz"), ("do mill ann join cart zz", "zz")])
        self.refusals(desk, NoLine, "line", [
            ("strike mill 1", 1), ("strike mill 2", 2), ("strike mill 999", 999), ("restore mill 0", 0),
            ("restore mill 2", 2), ("paper mill 1", 1), ("undo mill bob", None), ("undo mill zz", None)])
        self.refusals(desk, NoMark, "name", [("back mill eve", "eve"), ("back mill mill", "mill")])
        desk.say("strike mill 0")
        self.refusals(desk, NoNeed, "line", [("restore mill 1", 0)])

    def test_not_now_by_what_was_ended_ahead(self):
        desk = desk_of("log mill a@1:1", "do mill ann take a", "strike mill 0", "do mill bob move a 2", "strike mill 1",
                       "restore mill 0")
        self.refusals(desk, NotNow, "name", [("restore mill 1", "a")])


class ChanceTest(Case):
    """Desks by chance, held against logs that are asked themselves."""

    def row(self, chance, logs, fresh):
        """The parts of a row by chance, of which most are taken."""
        name, hand, mark = chance.choice("aaabbbc"), chance.choice(("ann", "bob")), chance.choice("mno")
        line = chance.randrange(9)
        deed = chance.choice(DEEDS)
        if name in logs and chance.randrange(4):
            book = logs[name].book()
            deed = more_lines(chance, book, len(book[1]) + 1, fresh)[1][-1][1]
        return chance.choice([("do", name, hand, deed)] * 6 + [("strike", name, line), ("restore", name, line)] * 2 + [
            ("undo", name, hand), ("mark", name, mark), ("back", name, mark), ("paper", name, line)])

    def asked_of(self, log, word, *parts):
        """What the row should tell, by the functions."""
        if word == "do":
            return str(log.tell(*parts))
        if word == "mark":
            log.mark(*parts)
            return "ok"
        if word == "back":
            words = [step[0] for step in log.come_back(*parts)]
            return f"{words.count('back')} {words.count('again')}"
        if word == "paper":
            return "holds" if holds(*paper_goes(log.book(), parts)) else "no"
        went = {"strike": log.strike, "restore": log.put_back, "undo": log.undo}[word](*parts)
        return " ".join(str(line) for line in went) or "-"

    def told(self, call, *arguments):
        """What the call tells, or how it refuses."""
        try:
            return call(*arguments)
        except StrikeError as refusal:
            return type(refusal), vars(refusal)

    def test_against_the_functions(self):
        chance = random.Random(141)
        answers = []
        for turn in range(40):
            desk, logs, fresh = Desk(), {}, fresh_names(chance)
            for name, start in zip("ab", chance.sample(worlds_over("ab"), 2)):
                logs[name] = Log(start)
                desk.say(f"log {name} {show_world(start)}")
            for step in range(60):
                word, name, *parts = self.row(chance, logs, fresh)
                words = [show_deed(part) if isinstance(part, tuple) else str(part) for part in parts]
                told = self.told(desk.say, " ".join([word, name] + words))
                if name not in logs:
                    self.assertVery(told, (NoLog, {"name": name}))
                    continue
                log = logs[name]
                self.assertVery(told, self.told(self.asked_of, log, word, *parts))
                answers.append((word, told if isinstance(told, str) else told[0]))
                stand = " ".join(str(line) for line in log.stand()) or "-"
                book = show_book(log.book()).replace("\n", "; ")
                self.assertVery(seen(desk, name), [stand, show_world(log.world()), book])
        for answer in (("paper", "holds"), ("paper", NoLine), ("do", NoName), ("do", NotNow), ("strike", NoLine),
                       ("restore", NoLine), ("restore", NoNeed), ("restore", "-"), ("undo", NoLine), ("back", NoMark)):
            self.assertGreater(answers.count(answer), 5, answer)
        self.assertEqual(answers.count(("paper", "no")), 0)
        self.assertEqual([word for word, told in answers if told == NoDeed], [])


if __name__ == "__main__":
    unittest.main()
