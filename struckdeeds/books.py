"""Books: a start and lines (hand, deed), done one behind the other, each name made once at most."""

from struckdeeds.deeds import is_deed, made_by, must_stand
from struckdeeds.doings import done
from struckdeeds.errors import NoBook, NoDeed, NoLine, NoName, NotNow
from struckdeeds.rows import gone
from struckdeeds.words import is_name, is_within
from struckdeeds.worlds import is_world, thing_of


def checked_book(thing):
    """The book itself; NoBook, with the number of the first wrong line or None, of what is none."""
    if not isinstance(thing, tuple) or len(thing) != 2:
        raise NoBook(None)
    start, lines = thing
    if not is_world(start) or not isinstance(lines, tuple):
        raise NoBook(None)
    here = start
    for number, line in enumerate(lines):
        if not isinstance(line, tuple) or len(line) != 2:
            raise NoBook(number)
        try:
            here = told_on(here, (start, lines[:number]), line[0], line[1])
        except (NoName, NoDeed, NotNow):
            raise NoBook(number) from None
    return thing


def told_on(world, book, hand, deed):
    """The world behind a new line on this one, beside the book's lines; NoName, NoDeed or NotNow."""
    if not is_name(hand):
        raise NoName(hand)
    if not is_deed(deed):
        raise NoDeed()
    made = made_by(deed)
    if thing_of(book[0], made) is not None or made in makers(book):
        raise NoName(made)
    return done(world, deed)


def makers(book):
    """A new dict of the numbers of the lines that make a name, by these names."""
    made = [made_by(deed) for deed in deeds_of(book)]
    return {name: number for number, name in enumerate(made) if name is not None}


def deeds_of(book):
    """The row of the deeds of all lines."""
    return tuple([deed for hand, deed in book[1]])


def book_world(book):
    """The world behind all lines."""
    return gone(book[0], deeds_of(book))


def book_of(book, numbers):
    """The book's start with just the lines of these numbers."""
    return (book[0], tuple([book[1][number] for number in numbers]))


def is_number(book, thing):
    """Whether the thing, of any kind, is the number of a line."""
    return is_within(thing, 0, len(book[1]) - 1)


def needs(book, number):
    """The rising tuple of the lines that the line of this number needs; NoLine of what is no line's number."""
    if not is_number(book, number):
        raise NoLine(number)
    made = makers(book)
    return tuple(sorted([made[name] for name in must_stand(book[1][number][1]) if name in made]))


def asking_for(book, numbers, name):
    """Those of these lines for which the name must stand; none for the name None."""
    return tuple([number for number in numbers if name in must_stand(book[1][number][1])])
