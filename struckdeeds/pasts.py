"""Lines put into the past of a book."""

from struckdeeds.books import asking_for, book_of, book_world, told_on
from struckdeeds.deeds import ended_by
from struckdeeds.errors import NoLine
from struckdeeds.strikes import goes
from struckdeeds.words import is_within


def put_in(book, place, hand, deed):
    """(book, gone): the book with the new line ahead of the one of this number; NoLine, NoName, NoDeed or NotNow."""
    start, lines = book
    if not is_within(place, 0, len(lines)):
        raise NoLine(place)
    ahead = (start, lines[:place])
    told_on(book_world(ahead), book, hand, deed)
    behind = list(range(place, len(lines)))
    gone = goes(book, asking_for(book, behind, ended_by(deed)))
    left = book_of(book, [number for number in behind if number not in gone])
    return ((start, lines[:place] + ((hand, deed),) + left[1]), gone)
