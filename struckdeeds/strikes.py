"""Lines struck out of a book: what goes with them, by which chains of needs, and what is left."""

from struckdeeds.books import book_of, is_number, needs
from struckdeeds.errors import NoLine


def goes(book, struck):
    """The rising tuple of all lines that go, the struck ones too; NoLine with the first that is no line."""
    return tuple(sorted(chains_by_ends(book, struck)))


def chains(book, struck):
    """For each line that goes but isn't struck, rising, a chain from a struck line to it; NoLine as with goes."""
    ends = chains_by_ends(book, struck)
    return tuple([ends[number] for number in sorted(ends) if number not in struck])


def left(book, struck):
    """The book of the lines that don't go; NoLine as with goes."""
    going = goes(book, struck)
    return book_of(book, [number for number in range(len(book[1])) if number not in going])


def chains_by_ends(book, struck):
    """For each line that goes, by its number, a chain from a struck line to it; a struck one's is itself alone."""
    for thing in struck:
        if not is_number(book, thing):
            raise NoLine(thing)
    ends = {number: (number,) for number in struck}
    # One walk will do: what a line needs stands ahead of it.
    for number in range(len(book[1])):
        going = [need for need in needs(book, number) if need in ends]
        if number not in ends and len(going) > 0:
            ends[number] = ends[going[0]] + (number,)
    return ends
