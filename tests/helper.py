"""What several of the tests share."""

import copy
import itertools
import random
import unittest

from struckdeeds.books import checked_book, needs
from struckdeeds.deeds import ended_by, made_by, must_stand
from struckdeeds.doings import back_deed, done
from struckdeeds.errors import NoRow, NotNow
from struckdeeds.rows import gone
from struckdeeds.touches import touch


def deep(depth, inner):
    """A tuple in a tuple, depth times."""
    for step in range(depth):
        inner = (inner,)
    return inner


# Things of every kind that is neither name, number, world nor deed.
ODD_THINGS = [
    None, True, False, "", " ", "A", "ninechars", "a b", "-", "\n", b"", b"a", [], {}, [[]], [()],
    ["a", 1, 1], ("a",), ("a", 1), ((),), (None,), ([],), ({},), {"a": 1}, {0: ("a", 1, 1)},
    (True,), ((True,),), deep(20, "a"), deep(20, []), [deep(19, None)], (("a", 1, 1), None),
]


class Case(unittest.TestCase):
    """A test case that asks for more than equality where truths and numbers may be mixed up."""

    def assertVery(self, told, wished):
        """The same value of the same kinds throughout: no list for a tuple, no True for 1."""
        self.assertEqual(told, wished)
        self.assertEqual(repr(told), repr(wished))

    def asked(self, call, *arguments):
        """What the call tells; asked again it tells the same, and what is handed in stays."""
        before = copy.deepcopy(arguments)
        told = call(*arguments)
        self.assertVery(arguments, before)
        self.assertVery(call(*arguments), told)
        return told

    def refused(self, error, call, *arguments):
        """The error of this very class with which the call is refused; what is handed in stays."""
        before = copy.deepcopy(arguments)
        with self.assertRaises(error) as caught:
            call(*arguments)
        self.assertEqual(type(caught.exception), error)
        self.assertVery(arguments, before)
        return caught.exception

    def walk(self, book, stand, steps):
        """The stand and the world to which the steps lead, each of them held against point 18."""
        self.assertIs(type(steps), tuple)
        deeds = [deed for hand, deed in book[1]]
        world = gone(book[0], tuple(deeds[line] for line in stand))
        for step in steps:
            word, number, deed = step
            self.assertVery((type(step), type(number)), (tuple, int))
            self.assertFalse(any(touch(deeds[line], deeds[number]) for line in stand if line > number))
            self.assertEqual(number in stand, word == "back")
            if word == "back":
                stand = tuple(line for line in stand if line != number)
                there = gone(book[0], tuple(deeds[line] for line in stand))
                self.assertVery(deed, back_deed(there, deeds[number]))
            else:
                self.assertEqual(word, "again")
                self.assertTrue(all(need in stand for need in needs(book, number)))
                stand = tuple(sorted(stand + (number,)))
                there = gone(book[0], tuple(deeds[line] for line in stand))
                self.assertVery(deed, deeds[number])
            world = done(world, deed)
            self.assertVery(world, there)
        return stand, world


def deeds_over(names):
    """Deeds of every kind over these names; numbers that no sum of others comes to."""
    deeds = []
    for one in names:
        deeds += [("put", one, 40, 3), ("take", one), ("move", one, 50), ("count", one, -5)]
        for other in names.replace(one, ""):
            deeds += [("name", one, other), ("split", one, other, 60, 17), ("join", one, other)]
    return deeds


DEEDS = deeds_over("abc")
NO_DEEDS = [None, (), "take a", ["take", "a"], ("take", "A"), ("take",), ("name", "a", "a"), ("put", "a", 1000, 1),
            ("count", "a", True), ("move", "a", -1), {}, 5, True]


def worlds_over(names, place=1, count=1000):
    """The worlds of all sets of these names; z, which no deed names, stands in each."""
    worlds = [(("z", 999, 777),)]
    for number, name in enumerate(reversed(sorted(names))):
        thing = (name, place + number, count * 10 ** number)
        worlds += [(thing,) + world for world in worlds]
    return worlds


def rows_by_chance(seed, many, longest, deeds=DEEDS):
    """Rows of these deeds, whether they can be done or not."""
    chance = random.Random(seed)
    return [tuple(chance.choice(deeds) for step in range(chance.randrange(longest + 1))) for turn in range(many)]


def doable_row(chance, world, length, deeds=DEEDS):
    """A row of so many of these deeds, by chance, that can be done on the world."""
    row = ()
    while len(row) < length:
        deed = chance.choice(deeds)
        try:
            world = done(world, deed)
        except NotNow:
            continue
        row += (deed,)
    return row


def behind(world, row):
    """The world behind the row, or None where it can't be done."""
    try:
        return gone(world, row)
    except NoRow:
        return None


# A start and lines of which some need, touch and end what others make.
CART_BOOK = ((("cart", 5, 12),), (
    ("ann", ("put", "a", 1, 1)),
    ("bob", ("count", "cart", 2)),
    ("ann", ("split", "cart", "b", 3, 3)),
    ("bob", ("count", "a", 1)),
    ("ann", ("join", "b", "a")),
    ("bob", ("name", "b", "c")),
))
NO_NUMBERS = [None, True, False, -1, "0", "", "a", [], [0], (0,), (), {}, {0: 0}, b"0", deep(20, 0), 10 ** 12]


HANDS = ("ann", "bob", "cy")
WORDS = ("put", "split", "name", "take", "join", "move", "count")


def is_book(start, lines):
    """Whether these lines are a book from the start on, told as plainly as the document does."""
    names = [thing[0] for thing in start]
    for hand, deed in lines:
        made = {"put": deed[1:2], "name": deed[2:3], "split": deed[2:3]}.get(deed[0], ())
        if any(name in names for name in made):
            return False
        names += made
        try:
            start = done(start, deed)
        except NotNow:
            return False
    return True


# A start of two things, and books on it.
AB = (("a", 1, 1), ("b", 2, 2))


def ab_book(*deeds):
    """The book of these deeds on the start of two things, all by one hand."""
    return checked_book((AB, tuple(("h", deed) for deed in deeds)))


def subsets(numbers):
    """All rising tuples of these rising numbers."""
    return [tuple(some) for many in range(len(numbers) + 1) for some in itertools.combinations(numbers, many)]


def part(book, numbers):
    """The book's start with just these lines."""
    return book[0], tuple(book[1][number] for number in numbers)


def all_stands(book):
    """Every stand of a small book: the sets of lines that are a book of their own."""
    return [some for some in subsets(range(len(book[1]))) if is_book(*part(book, some))]


def small_books(names="ab", longest=3):
    """Every book of so many lines at most, with deeds over these names, from each world of them on."""
    starts = worlds_over(names)
    books = []
    for start in starts:
        rows = [()]
        for step in range(longest + 1):
            books += [(start, row) for row in rows]
            rows = [row + (("h", deed),) for row in rows for deed in deeds_over(names)
                    if is_book(start, row + (("h", deed),))]
    return books


def fresh_names(chance):
    """Many names of three letters, in an order by chance."""
    fresh = ["".join(letters) for letters in itertools.product("abcdefgh", repeat=3)]
    chance.shuffle(fresh)
    return fresh


def more_lines(chance, book, length, fresh, hands=HANDS, words=WORDS):
    """The book with lines of these words behind it, by chance, until it has so many; fresh are the names to make."""
    start, lines = book
    world = gone(start, tuple(deed for hand, deed in lines))
    while len(lines) < length:
        one, other = ([chance.choice(world)[0] for step in range(2)] if world else ("zz", "zz"))
        new, place, count = fresh[-1], chance.randrange(1000), chance.randrange(-20, 20)
        deed = chance.choice([("put", new, place, count), ("split", one, new, place, count), ("name", one, new),
                              ("take", one), ("join", one, other), ("move", one, place), ("count", one, count)])
        if one == other and deed[0] == "join" or deed[0] not in (words if world else ("put",)):
            continue
        if new in deed:
            fresh.pop()
        world = done(world, deed)
        lines += ((chance.choice(hands), deed),)
    return start, lines


def book_by_chance(chance, length):
    """A book of so many lines in which lines need, touch and end much, by chance."""
    fresh = fresh_names(chance)
    start = tuple(sorted((fresh.pop(), step, 10 ** step) for step in range(chance.randrange(4))))
    return more_lines(chance, (start, ()), length, fresh)


def books_by_chance(seed, many, longest):
    """Books of up to so many lines, by chance."""
    chance = random.Random(seed)
    return [book_by_chance(chance, chance.randrange(longest + 1)) for turn in range(many)]


def two_by_chance(chance, shares, longest, words=WORDS):
    """Two books that share up to so many lines and have up to so many own ones of these words, by chance."""
    fresh = fresh_names(chance)
    start = tuple(sorted((fresh.pop(), step, 10 ** step) for step in range(chance.randrange(1, 13))))
    ahead = more_lines(chance, (start, ()), chance.randrange(shares + 1), fresh)
    own = [fresh[:100], fresh[100:]] if chance.randrange(4) else [fresh[:], fresh[:]]
    return tuple(more_lines(chance, ahead, len(ahead[1]) + chance.randrange(longest + 1), names, words=words)
                 for names in own)


def books_of_two_hands(seed, many, longest):
    """Pairs of books with the same start, by chance, of which some quarrel and some don't."""
    chance = random.Random(seed)
    choices = [WORDS, WORDS, ("count", "move", "split", "take"), ("count", "put", "join"), ("put", "split", "move")]
    return [two_by_chance(chance, longest, longest, chance.choice(choices)) for turn in range(many)]


def small_pairs(names="ab", longest=2):
    """Every two small books with the same start."""
    return [(one, other) for one, other in itertools.product(small_books(names, longest), repeat=2) if one[0] == other[0]]


def shared_lines(one, other):
    """How many lines two books with the same start share."""
    many = 0
    while one[1][:many + 1] == other[1][:many + 1] and many < min(len(one[1]), len(other[1])):
        many += 1
    return many


def all_orders(one, other):
    """The shared lines of two books and then all their own ones, in each order that keeps those of both."""
    many = shared_lines(one, other)
    own, others = one[1][many:], other[1][many:]
    orders = []
    for places in itertools.combinations(range(len(own) + len(others)), len(own)):
        lines, rest = iter(own), iter(others)
        orders.append(one[1][:many] + tuple(next(lines if place in places else rest)
                                            for place in range(len(own) + len(others))))
    return orders


def quarrels(one, other):
    """Every quarrel of two books, by the words of point 24."""
    many = shared_lines(one, other)
    own = [(i, deed) for i, (hand, deed) in enumerate(one[1]) if i >= many]
    others = [(j, deed) for j, (hand, deed) in enumerate(other[1]) if j >= many]
    both = list(itertools.product(own, others))
    found = [("made", i, j) for (i, one), (j, two) in both if made_by(one) and made_by(one) == made_by(two)]
    found += [("ended", i, j) for (i, one), (j, two) in both if ended_by(one) and ended_by(one) == ended_by(two)]
    ones_ahead = [(i, j) for (i, one), (j, two) in both if ended_by(two) in must_stand(one)]
    twos_ahead = [(k, l) for (l, one), (k, two) in both if ended_by(one) in must_stand(two)]
    pairs = itertools.product(ones_ahead, twos_ahead)
    return found + [("round", i, j, k, l) for (i, j), (k, l) in pairs if l <= i and j <= k]
