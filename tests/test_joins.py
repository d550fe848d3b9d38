"""Two books joined, their quarrels, and lines carried behind another book [24, 25]."""

import itertools
import random
import unittest

from struckdeeds.books import checked_book, needs
from struckdeeds.deeds import ended_by, made_by, must_stand
from struckdeeds.errors import NoJoin
from struckdeeds.joins import carried, joined, shared
from tests.helper import (AB, CART_BOOK, Case, ab_book, all_orders, book_by_chance, books_of_two_hands, is_book, part,
                          quarrels, shared_lines, small_pairs, subsets)


def crossing(chance, names, length):
    """Two books by chance of which each ends other names and both use all, so that only rounds may bar them."""
    start = tuple((name, 1, 1) for name in names)
    books = []
    for own in (names[::2], names[1::2]):
        standing, lines = list(names), ()
        while len(lines) < length and standing:
            name = chance.choice(standing)
            ends = name in own and chance.randrange(2) == 0
            lines += (("h", ("take", name) if ends else ("count", name, chance.randrange(9))),)
            standing = [other for other in standing if other != name or not ends]
        books.append((start, lines))
    return books


def parted(chance, whole, many):
    """Two books of the first lines and some of the others, by chance, such that none needs one of the other book."""
    groups = list(range(len(whole[1])))
    for number in range(many, len(groups)):
        for need in needs(whole, number):
            if need >= many:
                groups = [groups[number] if group == groups[need] else group for group in groups]
    sides = [chance.randrange(2) for number in groups]
    own = [[number for number in range(len(groups)) if number < many or sides[groups[number]] == side] for side in range(2)]
    return [part(whole, numbers) for numbers in own]


def barred(one, other):
    """The other's own lines that go, by the words of point 25, gone over until nothing more comes."""
    many = shared_lines(one, other)
    own = [deed for hand, deed in one[1][many:]]
    going = set()
    while True:
        more = set()
        for number in range(many, len(other[1])):
            deed = other[1][number][1]
            wanted = must_stand(deed)
            made = [made_by(other[1][line][1]) for line in going]
            if any(name in wanted for name in [ended_by(ahead) for ahead in own] + made):
                more.add(number)
            if made_by(deed) and made_by(deed) in [made_by(ahead) for ahead in own]:
                more.add(number)
        if more <= going:
            return tuple(sorted(going))
        going |= more


def stays_by_itself(one, other, kept):
    """Whether the first book and these of the other's lines are a book in which they stand by themselves."""
    lines = tuple(other[1][line] for line in kept)
    if not is_book(one[0], one[1] + lines):
        return False
    known = {thing[0] for thing in one[0]}
    known |= {made_by(deed) for hand, deed in one[1][:shared_lines(one, other)] + lines}
    return all(name in known for hand, deed in lines for name in must_stand(deed))


class SharedTest(Case):

    def test_how_many(self):
        start, lines = CART_BOOK
        other = ("ann", ("move", "cart", 77))
        for many in range(7):
            self.assertVery(self.asked(shared, CART_BOOK, (start, lines[:many])), many)
            self.assertVery(self.asked(shared, (start, lines[:many]), CART_BOOK), many)
            self.assertVery(self.asked(shared, CART_BOOK, (start, lines[:many] + (other,))), many)
        self.assertVery(shared(CART_BOOK, (start, lines[1:2])), 0)
        self.assertVery(shared(((), ()), ((), ())), 0)

    def test_only_lines_ahead_of_the_first_unlike_one(self):
        one = ab_book(("move", "a", 3), ("move", "a", 4), ("move", "a", 5))
        other = ab_book(("move", "a", 3), ("move", "a", 9), ("move", "a", 5))
        self.assertVery(shared(one, other), 1)

    def test_another_hand_is_another_line(self):
        one = (AB, (("ann", ("move", "a", 3)),))
        self.assertVery(shared(one, (AB, (("bob", ("move", "a", 3)),))), 0)
        self.assertVery(shared(one, (AB, (("ann", ("move", "a", 3)),))), 1)

    def test_starts_that_are_unlike(self):
        line = ("h", ("put", "x", 1, 1))
        starts = [(), AB, AB[:1], AB[1:], (("a", 1, 1), ("b", 2, 3)), (("a", 1, 1), ("b", 3, 2)),
                  (("a", 1, 1), ("c", 2, 2))]
        for one, other in itertools.permutations(starts, 2):
            for lines, others in itertools.product(((), (line,)), repeat=2):
                for call in (shared, joined, carried):
                    self.refused(NoJoin, call, (one, lines), (other, others))


class JoinedTest(Case):

    def check(self, one, other):
        """What is told, held against the words of point 24."""
        told = self.asked(joined, one, other)
        self.assertEqual((type(told), len(told), type(told[1])), (tuple, 2, tuple))
        if told[0] == "quarrel":
            self.assertIn(repr(told[1]), [repr(quarrel) for quarrel in quarrels(one, other)])
            return told
        self.assertEqual(told[0], "joined")
        self.assertEqual(quarrels(one, other), [])
        self.assertVery(checked_book(told[1]), told[1])
        self.assertVery(told[1][0], one[0])
        many = shared_lines(one, other)
        self.assertVery(told[1][1][:many], one[1][:many])
        self.assertTrue(self.is_merged(told[1][1][many:], one[1][many:], other[1][many:]))
        return told

    def is_merged(self, lines, ones, others):
        """Whether these are all lines of both, those of each in their order."""
        ways = {(0, 0)}
        for line in lines:
            ways = {(i + 1, j) for i, j in ways if ones[i:i + 1] == (line,)} | \
                   {(i, j + 1) for i, j in ways if others[j:j + 1] == (line,)}
        return (len(ones), len(others)) in ways

    def quarrel(self, one, other, *right):
        """The books quarrel, told in one of these ways, and so they do the other way about."""
        self.assertIn(self.check(one, other), [("quarrel", told) for told in right])
        self.assertEqual(self.check(other, one)[0], "quarrel")

    def both(self, one, other):
        """The books are joined, either way about."""
        self.assertEqual(self.check(other, one)[0], "joined")
        told = self.check(one, other)
        self.assertEqual(told[0], "joined")
        return told[1][1]

    def test_books_of_no_own_lines(self):
        empty = ab_book()
        self.assertVery(joined(empty, empty), ("joined", empty))
        self.assertVery(joined(((), ()), ((), ())), ("joined", ((), ())))
        for many in range(7):
            self.assertVery(self.both(CART_BOOK, part(CART_BOOK, range(many))), CART_BOOK[1])

    def test_the_same_name_made(self):
        put, split, name = ("put", "x", 1, 1), ("split", "b", "x", 1, 1), ("name", "a", "x")
        for one, other in itertools.product((put, split, name, ("put", "x", 2, 1)), repeat=2):
            if one != other:
                self.quarrel(ab_book(one), ab_book(other), ("made", 0, 0))
        move = ("move", "b", 5)
        self.quarrel(ab_book(move, ("count", "a", 1), put), ab_book(move, put), ("made", 2, 1))
        self.quarrel(ab_book(move, put), ab_book(move, ("count", "a", 1), put), ("made", 1, 2))
        # Ended again or not, it has been made by both.
        self.quarrel(ab_book(put, ("take", "x")), ab_book(split, ("take", "x")), ("made", 0, 0), ("ended", 1, 1))

    def test_the_same_name_ended(self):
        enders = [("take", "a"), ("name", "a", "x"), ("join", "b", "a"), ("name", "a", "y")]
        for one, other in itertools.permutations(enders, 2):
            self.quarrel(ab_book(one), ab_book(other), ("ended", 0, 0), ("round", 0, 0, 0, 0))
        move = ("move", "b", 5)
        one, other = ab_book(move, ("count", "b", 1), ("take", "a")), ab_book(move, ("name", "a", "x"))
        self.quarrel(one, other, ("ended", 2, 1), ("round", 2, 1, 1, 2))

    def test_the_same_line_behind_unlike_ones(self):
        count, move, take = ("count", "a", 1), ("move", "a", 2), ("take", "b")
        self.assertEqual(sorted(self.both(ab_book(count, move), ab_book(move))), [("h", count), ("h", move), ("h", move)])
        self.assertEqual(self.both(ab_book(count, count), ab_book(count)), (("h", count),) * 2)
        self.quarrel(ab_book(count, take), ab_book(move, take), ("ended", 1, 1), ("round", 1, 1, 1, 1))

    def test_ended_by_one_and_needed_by_the_other(self):
        count, move, take = ("count", "a", 1), ("move", "b", 2), ("take", "a")
        self.assertEqual(self.both(ab_book(take), ab_book(count))[-1], ("h", take))
        self.assertEqual(self.both(ab_book(move, take), ab_book(move, count))[-1], ("h", take))
        self.assertEqual(self.both(ab_book(move, take), ab_book(count, count))[-1], ("h", take))
        told = self.both(ab_book(take, ("put", "x", 1, 1)), ab_book(count, ("split", "a", "y", 1, 1), move))
        self.assertGreater(told.index(("h", take)), told.index(("h", ("split", "a", "y", 1, 1))))

    def test_both_ways_round(self):
        self.quarrel(ab_book(("join", "a", "b")), ab_book(("join", "b", "a")), ("round", 0, 0, 0, 0))
        take_a, take_b, use_a, use_b = ("take", "a"), ("take", "b"), ("count", "a", 1), ("count", "b", 1)
        self.quarrel(ab_book(take_a, use_b), ab_book(take_b, use_a), ("round", 1, 0, 1, 0))
        # The uses ahead: neither way round bars the other.
        self.both(ab_book(use_b, take_a), ab_book(use_a, take_b))
        move = ("move", "a", 7)
        self.quarrel(ab_book(move, take_a, use_b), ab_book(move, take_b, use_a), ("round", 2, 1, 2, 1))
        one, other = ab_book(take_a, ("put", "x", 1, 1), use_b), ab_book(("put", "y", 1, 1), take_b, use_a)
        self.quarrel(one, other, ("round", 2, 1, 2, 0))

    def test_each_own_line_ahead_of_one_of_the_other(self):
        names = ["".join(letters) for letters in itertools.product("abcde", repeat=2)][:20]
        start = tuple((name, 1, 1) for name in names)
        uses = [("h", ("count", name, 1)) for name in names]
        takes = [("h", ("take", name)) for name in names]
        self.both((start, tuple(uses)), (start, tuple(takes)))
        # By turns: each line of the one only where the other has come so far.
        one = [line for at in range(0, 20, 2) for line in (uses[at], takes[at + 1])]
        other = [line for at in range(0, 20, 2) for line in (uses[at + 1], takes[at])]
        self.both((start, tuple(one)), (start, tuple(other)))
        # The other way about in both: the takes come ahead of the uses that must come ahead of them.
        one = [line for at in range(0, 20, 2) for line in (takes[at + 1], uses[at])]
        other = [line for at in range(0, 20, 2) for line in (takes[at], uses[at + 1])]
        self.quarrel((start, tuple(one)), (start, tuple(other)), ("round", 1, 0, 1, 0))

    def against_all_orders(self, pairs):
        """A book is told just where one of all orders is one; how often one was, and how often a quarrel."""
        told = {"joined": 0, "quarrel": 0}
        for one, other in pairs:
            word = self.check(one, other)[0]
            told[word] += 1
            self.assertEqual(word == "joined", any(is_book(one[0], order) for order in all_orders(one, other)))
        return told

    def test_small_books_against_all_orders(self):
        self.assertGreater(min(self.against_all_orders(small_pairs()).values()), 1000)

    def test_books_by_chance_against_all_orders(self):
        self.assertGreater(min(self.against_all_orders(books_of_two_hands(91, 400, 4)).values()), 30)

    def test_rounds_by_chance_against_all_orders(self):
        chance = random.Random(96)
        pairs = [crossing(chance, names, 5) for names in ("ab", "abc", "abcd") for turn in range(100)]
        self.assertGreater(min(self.against_all_orders(pairs).values()), 50)

    def test_long_books(self):
        chance = random.Random(97)
        told = {"joined": 0, "quarrel": 0}
        pairs = [crossing(chance, "abcdefghijkl", length) for length in (10, 20, 40) for turn in range(20)]
        for one, other in pairs + books_of_two_hands(92, 40, 20):
            told[self.check(one, other)[0]] += 1
            self.assertEqual(self.check(other, one)[0], joined(one, other)[0])
        self.assertGreater(min(told.values()), 20)

    def test_what_was_one_book_is_joined_again(self):
        chance = random.Random(93)
        for turn in range(40):
            whole = book_by_chance(chance, 40)
            one, other = parted(chance, whole, chance.randrange(20))
            self.assertEqual(sorted(self.both(one, other)), sorted(whole[1]))


class CarriedTest(Case):

    def check(self, one, other):
        """What goes; all that is told is held against the words of point 25."""
        told = self.asked(carried, one, other)
        self.assertEqual((type(told), len(told)), (tuple, 2))
        new, gone = told
        self.assertVery(gone, barred(one, other))
        kept = tuple(other[1][line] for line in range(shared_lines(one, other), len(other[1])) if line not in gone)
        self.assertVery(new, (one[0], one[1] + kept))
        self.assertVery(checked_book(new), new)
        return gone

    def test_written_books(self):
        put, take, count = ("put", "x", 1, 1), ("take", "a"), ("count", "a", 1)
        use, move = ("count", "x", 2), ("move", "b", 3)
        name, split, end = ("name", "a", "x"), ("split", "a", "x", 1, 1), ("take", "x")
        for one, other, gone in (
                ((), (), ()), ((put,), (), ()), ((), (put, use), ()), ((put,), (put,), ()), ((put, use), (put,), ()),
                ((put,), (put, use), ()),
                # A name is needed that the first ends.
                ((take,), (count,), (0,)), ((take,), (move, count), (1,)), ((take,), (take, move), ()),
                ((move, take), (move, count), (1,)), ((move, take), (count,), (0,)), ((move, take), (take, move), (0,)),
                ((take, put), (move, take), (1,)), ((name,), (count, move), (0,)), ((count,), (take, put), ()),
                ((("join", "b", "a"),), (move, count), (1,)), ((("join", "a", "b"),), (count, move), (1,)),
                # A name is made that the first makes.
                ((put,), (move, put, use), (1, 2)), ((split,), (put,), (0,)), ((put, end), (move, put, use), (1, 2)),
                # What goes with them by needs.
                ((take,), (split, use, ("name", "x", "y"), move, ("take", "y")), (0, 1, 2, 4)),
                ((take,), (move, name, ("split", "b", "y", 1, 1), ("join", "y", "x")), (1, 3)),
                # Shared lines are needed and stand.
                ((put, ("move", "a", 5)), (put, use, end), ()),
                ((put, end), (put, use, ("name", "x", "y"), count, ("take", "y")), (1, 2, 4))):
            with self.subTest(one=one, other=other):
                self.assertVery(self.check(ab_book(*one), ab_book(*other)), gone)

    def test_none_goes_and_all_go(self):
        names = ["a", "b"]
        ends = ab_book(*[("take", name) for name in names])
        uses = ab_book(*[("count", name, step) for step in range(20) for name in names])
        self.assertVery(self.check(ends, uses), tuple(range(40)))
        self.assertVery(self.check(uses, ends), ())

    def test_nothing_less_makes_such_a_book(self):
        for one, other in list(small_pairs()) + books_of_two_hands(94, 200, 5):
            gone = self.check(one, other)
            own = range(shared_lines(one, other), len(other[1]))
            going = [some for some in subsets(own)
                     if stays_by_itself(one, other, [line for line in own if line not in some])]
            self.assertIn(gone, going)
            self.assertTrue(all(set(gone) <= set(some) for some in going))

    def test_long_books(self):
        gone = [self.check(one, other) for one, other in books_of_two_hands(95, 60, 20)]
        self.assertGreater(len([some for some in gone if some]), 20)


if __name__ == "__main__":
    unittest.main()
