"""Claims and papers that the checker takes, and those that it doesn't [26]."""

import itertools
import random
import subprocess
import sys
import unittest

from struckdeeds.books import checked_book, needs
from struckdeeds.changes import changed
from struckdeeds.checker import holds
from struckdeeds.deeds import is_deed
from struckdeeds.doings import back_deed
from struckdeeds.errors import NoBook
from struckdeeds.joins import joined
from struckdeeds.partings import alike
from struckdeeds.stands import is_stand, stand_world
from struckdeeds.strikes import chains, goes
from struckdeeds.touches import touch
from struckdeeds.ways import lifted, way
from struckdeeds.worlds import is_world
from tests.helper import (AB, NO_NUMBERS, ODD_THINGS, Case, ab_book, all_orders, all_stands, behind, book_by_chance,
                          books_of_two_hands, deep, deeds_over, doable_row, quarrels, rows_by_chance, small_books,
                          small_pairs, subsets, worlds_over)

WORDS = ("goes", "alike", "parted", "changes", "no changes", "leads", "lifted", "joined", "quarrel")


# This and what follows judge by the document's words and by what the questions tell, as the checker itself mustn't.
def is_so(claim, paper):
    """Whether the claim and the paper are so."""
    if type(claim) is not tuple or not claim or type(claim[0]) is not str or claim[0] not in JUDGES:
        return False
    judge, parts = JUDGES[claim[0]]
    return len(claim) == parts + 1 and bool(judge(paper, *claim[1:]))


def is_a_book(thing):
    try:
        return checked_book(thing) is thing
    except NoBook:
        return False


def is_row(thing):
    return type(thing) is tuple and all(is_deed(part) for part in thing)


def are_lines(book, thing):
    return type(thing) is tuple and all(type(part) is int and 0 <= part < len(book[1]) for part in thing)


def goes_so(paper, book, struck, gone):
    if not is_a_book(book) or not are_lines(book, struck) or not are_lines(book, gone) or gone != goes(book, struck):
        return False
    if type(paper) is not tuple or not all(are_lines(book, chain) and chain for chain in paper):
        return False
    ends = [line for line in gone if line not in struck]
    return [chain[-1] for chain in paper] == ends and all(chain[0] in struck for chain in paper) and all(
        ahead in needs(book, line) for chain in paper for ahead, line in zip(chain, chain[1:]))


def alike_so(paper, row, other):
    return paper is None and is_row(row) and is_row(other) and alike(row, other) == ("alike",)


def parted_so(paper, row, other):
    return is_row(row) and is_row(other) and is_world(paper) and behind(paper, row) != behind(paper, other)


def changes_so(paper, row, other):
    if not is_row(row) or not is_row(other) or type(paper) is not tuple:
        return False
    for at in paper:
        if type(at) is not int or at < 0 or at + 1 >= len(row) or touch(*row[at:at + 2]):
            return False
        row = row[:at] + (row[at + 1], row[at]) + row[at + 2:]
    return row == other


def no_changes_so(paper, row, other):
    if not is_row(row) or not is_row(other) or type(paper) is not tuple or not is_row(paper[1:]):
        return False
    often = [row.count(deed) == other.count(deed) for deed in paper[1:]]
    if paper[:1] == ("often",) and len(paper) == 2:
        return not often[0]
    if paper[:1] != ("order",) or len(paper) != 3 or not all(often):
        return False
    only = [[deed for deed in deeds if deed in paper[1:]] for deeds in (row, other)]
    return paper[1] != paper[2] and touch(*paper[1:]) and only[0] != only[1]


def leads_so(paper, book, stand, wished, world):
    if not is_a_book(book) or not is_stand(book, stand) or not is_stand(book, wished) or not is_world(world):
        return False
    if type(paper) is not tuple:
        return False
    deeds = [deed for hand, deed in book[1]]
    for step in paper:
        if type(step) is not tuple or len(step) != 3 or not are_lines(book, step[1:2]) or not is_deed(step[2]):
            return False
        word, number, deed = step
        if any(line > number and touch(deeds[line], deeds[number]) for line in stand):
            return False
        if word == "back" and number in stand:
            stand = tuple(line for line in stand if line != number)
            right = back_deed(stand_world(book, stand), deeds[number])
        elif word == "again" and number not in stand and all(need in stand for need in needs(book, number)):
            stand = tuple(sorted(stand + (number,)))
            right = deeds[number]
        else:
            return False
        if deed != right:
            return False
    return stand == wished and stand_world(book, wished) == world


def lifted_so(paper, book, stand, wished, number):
    if not is_a_book(book) or not is_stand(book, stand) or not is_stand(book, wished) or not are_lines(book, (number,)):
        return False
    if number not in stand or not are_lines(book, paper) or not paper or paper[-1] != number:
        return False
    deeds = [deed for hand, deed in book[1]]
    return (paper[0] in stand and paper[0] not in wished or paper[0] in wished and paper[0] not in stand) and all(
        line in stand and line > ahead and touch(deeds[line], deeds[ahead]) for ahead, line in zip(paper, paper[1:]))


def joined_so(paper, one, other):
    if not is_a_book(one) or not is_a_book(other) or one[0] != other[0]:
        return False
    return is_a_book(paper) and paper[0] == one[0] and paper[1] in all_orders(one, other)


def quarrel_so(paper, one, other):
    if not is_a_book(one) or not is_a_book(other) or one[0] != other[0]:
        return False
    return repr(paper) in [repr(quarrel) for quarrel in quarrels(one, other)]


JUDGES = {"goes": (goes_so, 3), "alike": (alike_so, 2), "parted": (parted_so, 2), "changes": (changes_so, 2),
          "no changes": (no_changes_so, 2), "leads": (leads_so, 4), "lifted": (lifted_so, 4), "joined": (joined_so, 2),
          "quarrel": (quarrel_so, 2)}


def otherwise(thing):
    """The thing put otherwise, as a whole or in one of its parts, however deep."""
    yield from (None, True, False, 0, 1, -1, 7, 10 ** 12, "", "a", "goes", (), [], {}, (0,), ((),), [()], {0: 0}, b"a",
                deep(20, 0), [deep(19, "a")], {"a": deep(19, None)})
    if isinstance(thing, int):
        yield from (thing + 1, thing - 1, -thing, str(thing), (thing,), [thing], thing == 1)
    elif isinstance(thing, str):
        yield from (thing + "a", thing[:-1], thing.upper(), (thing,), [thing], " " + thing, tuple(thing), thing.encode())
    elif isinstance(thing, tuple):
        yield from (list(thing), (thing,), [thing], dict(enumerate(thing)), thing[::-1], thing + thing, thing + (None,))
        for at, part in enumerate(thing):
            yield thing[:at] + thing[at + 1:]
            yield thing[:at + 1] + thing[at:]
            yield thing[:at] + thing[at:at + 2][::-1] + thing[at + 2:]
            for other in otherwise(part):
                yield thing[:at] + (other,) + thing[at + 1:]


# A book of few lines in which much is needed, touched and ended, and rows that touch in part.
BOOK = ab_book(("put", "x", 1, 1), ("move", "x", 4), ("split", "x", "y", 2, 3), ("count", "a", 1), ("join", "b", "y"))
ALL = (0, 1, 2, 3, 4)
ROW = (("count", "a", 1), ("move", "a", 2), ("count", "b", 1), ("take", "b"))
CHANGED = (("move", "a", 2), ("count", "b", 1), ("count", "a", 1), ("take", "b"))
UNCHANGED = (("count", "a", 1), ("move", "a", 2), ("take", "b"), ("count", "b", 1))
ONE = ab_book(("move", "a", 9), ("count", "b", 1), ("put", "x", 1, 1), ("take", "a"))
TWO = ab_book(("move", "a", 9), ("count", "a", 1), ("count", "b", 1))
ROUND = ab_book(("move", "a", 9), ("take", "b"), ("count", "a", 1), ("put", "x", 1, 1))
ROUNDED = ab_book(("move", "a", 9), ("take", "a"), ("move", "b", 1))
THIRD = ab_book(("move", "a", 9), ("name", "a", "x"))

# Claims with papers that are right.
RIGHT = [
    (("goes", BOOK, (0,), (0, 1, 2, 4)), ((0, 1), (0, 2), (0, 2, 4))),
    (("goes", BOOK, (2, 3, 2), (2, 3, 4)), ((2, 4),)),
    (("goes", BOOK, (), ()), ()),
    (("goes", BOOK, (4, 2), (2, 4)), ()),
    (("alike", ROW, CHANGED), None),
    (("alike", (), ()), None),
    (("alike", (("take", "a"), ("take", "a")), (("put", "b", 1, 1), ("put", "b", 2, 2))), None),
    (("parted", ROW, UNCHANGED), AB),
    (("parted", ROW[:1], ROW[1:2]), (("a", 0, 0),)),
    (("parted", ROW[:2], (("count", "a", 1), ("move", "a", 3))), (("a", 5, 10 ** 30), ("c", 0, 0))),
    (("changes", ROW, CHANGED), (0, 1)),
    (("changes", ROW, ROW), (1, 0, 0, 1)),
    (("changes", (), ()), ()),
    (("no changes", ROW, UNCHANGED), ("order", ("count", "b", 1), ("take", "b"))),
    (("no changes", ROW, ROW[1:]), ("often", ("count", "a", 1))),
    (("no changes", (), ROW[:1]), ("often", ("count", "a", 1))),
    (("leads", BOOK, ALL, (0, 1, 3), (("a", 1, 2), ("b", 2, 2), ("x", 4, 1))), (
        ("back", 4, ("split", "b", "y", 2, 3)), ("back", 3, ("count", "a", -1)), ("back", 2, ("join", "x", "y")),
        ("again", 3, ("count", "a", 1)))),
    (("leads", BOOK, (0, 2), (0, 1, 2), AB + (("x", 4, -2), ("y", 2, 3))), (("again", 1, ("move", "x", 4)),)),
    (("leads", BOOK, (), (), AB), ()),
    (("lifted", BOOK, ALL, (0, 3), 4), (2, 4)),
    (("lifted", BOOK, ALL, (3,), 4), (0, 2, 4)),
    (("lifted", BOOK, ALL, (3,), 1), (1,)),
    (("lifted", ab_book(("move", "a", 3), ("move", "a", 4), ("move", "a", 5)), (1, 2), (0, 1, 2), 2), (0, 1, 2)),
    (("joined", ONE, TWO), (AB, ONE[1][:1] + TWO[1][1:] + ONE[1][1:])),
    (("joined", BOOK, BOOK), BOOK),
    (("quarrel", ONE, ROUND), ("made", 2, 3)),
    (("quarrel", ONE, THIRD), ("made", 2, 1)),
    (("quarrel", ONE, THIRD), ("ended", 3, 1)),
    (("quarrel", ROUNDED, ROUND), ("round", 2, 1, 2, 1)),
]


def chain_by_chance(chance, book, struck, end):
    """A chain from a struck line to this one, by chance."""
    going = goes(book, struck)
    chain = (end,)
    while chain[0] not in struck or chance.randrange(2) and any(need in going for need in needs(book, chain[0])):
        chain = (chance.choice([need for need in needs(book, chain[0]) if need in going]),) + chain
    return chain


def back_by_chance(book, stand, deed):
    """The back deed of this one behind the stand, or None where it isn't one or the deed can't be done there."""
    world = behind_lines(book, stand)
    return back_deed(world, deed) if world is not None and behind(world, (deed,)) is not None else None


def behind_lines(book, numbers):
    """The world behind these lines, or None where they can't be done."""
    return behind(book[0], tuple(book[1][number][1] for number in numbers))


class JudgedCase(Case):

    def judged(self, claim, paper):
        """The claim and the paper are taken just where they are so."""
        told = holds(claim, paper)
        self.assertIs(type(told), bool)
        if told != is_so(claim, paper):
            self.fail(f"{claim} {paper}: {told}")
        return told


class CheckerTest(JudgedCase):

    def test_right_ones(self):
        for claim, paper in RIGHT:
            with self.subTest(claim=claim, paper=paper):
                self.assertIs(self.asked(holds, claim, paper), True)
                self.assertTrue(is_so(claim, paper))

    def test_each_part_put_otherwise(self):
        told = [0, 0]
        for claim, paper in RIGHT:
            for other in otherwise(claim):
                told[self.judged(other, paper)] += 1
            for other in otherwise(paper):
                told[self.judged(claim, other)] += 1
        self.assertGreater(told[False], 20000)

    def test_claims_of_other_words_and_lengths(self):
        for claim, paper in RIGHT:
            for word in WORDS + ("", "go", "Goes", "holds", "no  changes", "often"):
                if word != claim[0]:
                    self.judged((word,) + claim[1:], paper)
            for many in range(len(claim)):
                self.assertIs(holds(claim[:many], paper), False)
            for more in (None, (), claim[-1], paper):
                self.assertIs(holds(claim + (more,), paper), False)

    def test_things_of_any_kind(self):
        things = ODD_THINGS + NO_NUMBERS + [deep(20, ()), deep(20, {}), [deep(19, ())], {"goes": ()}, {(): ()}, set()]
        for thing in things:
            for claim, paper in RIGHT:
                self.judged(thing, paper)
                self.judged(claim, thing)
                self.assertIs(holds(list(claim), paper), False)
                for at in range(len(claim)):
                    self.judged(claim[:at] + (thing,) + claim[at + 1:], paper)
                for at in range(len(paper or ())):
                    self.judged(claim, paper[:at] + (thing,) + paper[at + 1:])
            for other in things:
                self.assertIs(holds(thing, other), False)
                self.assertIs(holds((thing,), other), False)
        for word, thing in itertools.product(WORDS, things):
            for many in range(6):
                self.judged((word,) + (thing,) * many, thing)
                self.judged((word,) + (BOOK,) + (thing,) * many, None)
                self.judged((word,) + (BOOK,) + (thing,) * many, ())

    def test_parts_of_other_claims(self):
        chance = random.Random(100)
        parts = [part for claim, paper in RIGHT for part in claim + (paper,)]
        told = [self.judged(claim[:at] + (chance.choice(parts),) + claim[at + 1:], chance.choice([paper] * 99 + parts))
                for turn in range(300) for claim, paper in RIGHT for at in [chance.randrange(1, len(claim))]]
        self.assertGreater(told.count(True), 10)

    def test_worlds_of_any_size(self):
        names = ["".join(letters) for letters in itertools.product("klmno", repeat=3)]
        many = tuple((name, 999, 10 ** 40) for name in names)
        row, other = (("count", "a", 1),), (("count", "a", 2),)
        self.assertIs(self.judged(("parted", row, other), AB[:1] + many), True)
        self.assertIs(self.judged(("parted", row, other), many), False)
        large = (AB + many, (("h", ("take", "a")), ("h", ("join", "b", "kkk"))))
        behind_it = (("b", 2, 2 + 10 ** 40),) + many[1:]
        self.assertIs(self.judged(("leads", large, (0,), (0, 1), behind_it), (("again", 1, ("join", "b", "kkk")),)), True)
        back = (("back", 1, ("split", "b", "kkk", 999, 10 ** 40)), ("back", 0, ("put", "a", 1, 1)))
        self.assertIs(self.judged(("leads", large, (0, 1), (), large[0]), back), True)
        self.assertIs(self.judged(("leads", large, (0, 1), (), AB), back), False)

    def test_it_draws_from_nothing_that_it_judges(self):
        asked = "import sys, struckdeeds.checker; print(*[name for name in sys.modules if 'struckdeeds' in name])"
        told = subprocess.run([sys.executable, "-c", asked], capture_output=True, text=True, check=True).stdout.split()
        self.assertIn("struckdeeds.checker", told)
        for name in ("books", "strikes", "stands", "ways", "logs", "pasts", "joins", "papers", "booktexts", "desk"):
            self.assertNotIn("struckdeeds." + name, told)


class SmallTest(JudgedCase):
    """All papers of small claims, whoever may have written them."""

    def test_what_goes(self):
        for lines in ((("put", "x", 1, 1), ("name", "x", "y"), ("count", "y", 1)),
                      (("put", "x", 1, 1), ("split", "x", "y", 1, 1), ("join", "x", "y")),
                      (("take", "a"), ("name", "b", "a" * 2), ("move", "aa", 1))):
            small = ab_book(*lines)
            words = [chain for many in range(4) for chain in itertools.product(range(3), repeat=many)]
            for struck, gone in itertools.product([(), (0,), (1,), (0, 2), (2, 1)], subsets(range(3))):
                taken = [paper for many in range(3) for paper in itertools.product(words, repeat=many)
                         if len(paper) < 2 or gone == goes(small, struck)
                         if self.judged(("goes", small, struck, gone), paper)]
                self.assertEqual(len(taken) > 0, gone == goes(small, struck))

    def test_sets_of_lines(self):
        for small in small_books(longest=3)[::7]:
            numbers = range(len(small[1]))
            for struck, gone in itertools.product(subsets(numbers), repeat=2):
                told = self.judged(("goes", small, struck, gone), chains(small, struck))
                self.assertEqual(told, gone == goes(small, struck))

    def test_rows(self):
        worlds = worlds_over("ab") + worlds_over("ab", 7, 0)
        for row, other in zip(rows_by_chance(101, 400, 3), rows_by_chance(102, 400, 3)):
            told = [self.judged(("parted", row, other), world) for world in worlds]
            self.assertFalse(any(told) and self.judged(("alike", row, other), None))

    def test_changes(self):
        deeds = [("count", "a", 1), ("move", "a", 2), ("count", "b", 1), ("take", "b")]
        places = [some for many in range(4) for some in itertools.product(range(-1, 3), repeat=many)]
        for row in rows_by_chance(103, 40, 3, deeds):
            for other in set(itertools.permutations(row)):
                taken = [some for some in places if self.judged(("changes", row, other), some)]
                self.assertEqual(len(taken) > 0, changed(row, other)[0] == "changes")

    def test_no_changes(self):
        deeds = [("count", "a", 1), ("move", "a", 2), ("count", "b", 1), ("take", "b")]
        papers = [("often", deed) for deed in deeds]
        papers += [("order", one, two) for one, two in itertools.product(deeds, repeat=2)]
        for row, other in zip(rows_by_chance(104, 600, 4, deeds), rows_by_chance(105, 600, 4, deeds)):
            taken = [paper for paper in papers if self.judged(("no changes", row, other), paper)]
            self.assertEqual(len(taken) > 0, changed(row, other)[0] != "changes")

    def test_steps(self):
        for small in (ab_book(("move", "a", 3), ("count", "a", 1)), ab_book(("put", "x", 1, 1), ("count", "x", 2)),
                      ab_book(("split", "a", "x", 1, 1), ("join", "a", "x")), ab_book(("count", "a", 0), ("take", "a"))):
            deeds = {deed for hand, deed in small[1]} | {("move", "a", 1), ("count", "a", -1), ("take", "x")}
            deeds |= {("count", "x", -2), ("split", "a", "x", 1, 1), ("put", "a", 1, 1)}
            steps = list(itertools.product(("back", "again"), range(2), sorted(deeds)))
            stands = all_stands(small)
            for stand, wished in itertools.product(stands, repeat=2):
                claim = ("leads", small, stand, wished, stand_world(small, wished))
                taken = [paper for many in range(3) for paper in itertools.product(steps, repeat=many)
                         if self.judged(claim, paper)]
                self.assertEqual(len(taken) > 0, len(way(small, stand, wished)) < 3)

    def test_worlds_to_which_steps_lead(self):
        worlds = [stand_world(BOOK, stand) for stand in all_stands(BOOK)] + worlds_over("ab")
        for stand, wished in itertools.product(all_stands(BOOK), repeat=2):
            steps = way(BOOK, stand, wished)
            for world in worlds:
                self.judged(("leads", BOOK, stand, wished, world), steps)

    def test_lifted_lines(self):
        papers = [some for many in range(4) for some in itertools.product(range(3), repeat=many)]
        for small in small_books(longest=3)[150::97]:
            for stand, wished in itertools.product(all_stands(small), repeat=2):
                for number in range(len(small[1])):
                    taken = [paper for paper in papers if self.judged(("lifted", small, stand, wished, number), paper)]
                    self.assertEqual(len(taken) > 0, number in lifted(small, stand, wished))

    def test_joined_books(self):
        for one, other in small_pairs()[::23]:
            taken = []
            for lines in {*itertools.permutations(one[1] + other[1]), *all_orders(one, other), one[1], other[1]}:
                if self.judged(("joined", one, other), (one[0], lines)):
                    taken.append(lines)
                self.assertIs(holds(("joined", one, other), (one[0] + (("zz", 1, 1),), lines)), False)
            self.assertEqual(len(taken) > 0, joined(one, other)[0] == "joined")

    def test_quarrels(self):
        numbers = range(-1, 3)
        papers = [(word, i, j) for word in ("made", "ended", "round") for i in numbers for j in numbers]
        papers += [(word,) + some for word in ("round", "made") for some in itertools.product(numbers, repeat=4)]
        for one, other in small_pairs()[::101]:
            taken = [paper for paper in papers if self.judged(("quarrel", one, other), paper)]
            self.assertEqual(len(taken) > 0, joined(one, other)[0] == "quarrel")
            self.assertEqual(sorted(taken), sorted(quarrels(one, other)))

    def test_books_with_unlike_starts(self):
        one, other = ((), BOOK[1][:1]), (AB, BOOK[1][:1])
        for paper in (one, other, ("made", 0, 0), ("made", 1, 1), ("ended", 0, 0), ("round", 0, 0, 0, 0)):
            for word in ("joined", "quarrel"):
                self.assertIs(holds((word, one, other), paper), False)


class LongTest(JudgedCase):
    """Books and rows of forty."""

    def test_what_goes(self):
        chance = random.Random(111)
        for turn in range(10):
            long = book_by_chance(chance, 40)
            struck = tuple(chance.randrange(40) for step in range(chance.randrange(4)))
            claim = ("goes", long, struck, goes(long, struck))
            paper = tuple(chain_by_chance(chance, long, struck, chain[-1]) for chain in chains(long, struck))
            self.assertIs(self.judged(claim, paper), True)
            for at, chain in enumerate(paper):
                for other in (chain[1:], chain[:-1], chain[::-1], chain + (39,), (0,) + chain, chain[:1] + chain[2:]):
                    self.judged(claim, paper[:at] + (other,) + paper[at + 1:])
            for line in range(40):
                self.judged(claim[:3] + (tuple(sorted({line} ^ set(claim[3]))),), paper)

    def test_rows(self):
        chance = random.Random(112)
        for turn in range(10):
            row = here = doable_row(chance, AB, 40, deeds_over("abcde"))
            places = ()
            for step in range(60):
                at = chance.randrange(39)
                if not touch(here[at], here[at + 1]):
                    here = here[:at] + (here[at + 1], here[at]) + here[at + 2:]
                    places += (at,)
            self.assertIs(self.judged(("changes", row, here), places), True)
            self.assertIs(self.judged(("alike", row, here), None), True)
            for at in range(len(places)):
                self.judged(("changes", row, here), places[:at] + places[at + 1:])
            for at in range(39):
                there = here[:at] + (here[at + 1], here[at]) + here[at + 2:]
                self.judged(("alike", row, there), None)
                self.judged(("no changes", row, there), ("order", here[at], here[at + 1]))
                self.judged(("no changes", row, there), ("often", here[at]))
                for world in (AB, (), AB[:1]):
                    self.judged(("parted", row, there), world)

    def test_steps(self):
        chance = random.Random(113)
        for turn in range(3):
            long = book_by_chance(chance, 40)
            going = goes(long, (chance.randrange(40),))
            stand = here = tuple(line for line in range(40) if line not in going)
            steps = ()
            for number in [chance.randrange(40) for step in range(100)]:
                there = tuple(sorted(set(here) ^ {number}))
                deed = long[1][number][1]
                word, own = ("back", back_by_chance(long, there, deed)) if number in here else ("again", deed)
                if own and self.judged(("leads", long, here, there, behind_lines(long, there)), ((word, number, own),)):
                    steps, here = steps + ((word, number, own),), there
            claim = ("leads", long, stand, here, stand_world(long, here))
            self.assertGreater(len(steps), 10)
            self.assertIs(self.judged(claim, steps), True)
            for at in range(0, len(steps), 3):
                self.judged(claim, steps[:at] + steps[at + 1:])
                self.judged(claim, steps[:at] + steps[at:at + 2][::-1] + steps[at + 2:])

    def test_joined_books(self):
        for one, other in books_of_two_hands(114, 60, 20):
            word, paper = joined(one, other)
            self.assertIs(holds((word, one, other), paper), True)
            wrong = {"joined": "quarrel", "quarrel": "joined"}[word]
            self.assertIs(holds((wrong, one, other), paper), False)
            if word == "quarrel":
                for told in quarrels(one, other):
                    self.assertIs(holds((word, one, other), told), True)
                continue
            for at in range(len(paper[1])):
                fewer = (paper[0], paper[1][:at] + paper[1][at + 1:])
                twice = (paper[0], paper[1][:at + 1] + paper[1][at:])
                self.assertEqual([holds((word, one, other), some) for some in (fewer, twice)], [False, False])


if __name__ == "__main__":
    unittest.main()
