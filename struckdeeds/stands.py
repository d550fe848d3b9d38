"""Stands of a book: lines that hold with each of them all that it needs."""

from struckdeeds.books import book_of, book_world, is_number, needs
from struckdeeds.errors import NoStand
from struckdeeds.words import rises


def is_stand(book, thing):
    """Whether the thing, of any kind, is a stand of the book."""
    if not isinstance(thing, tuple) or not all([is_number(book, part) for part in thing]):
        return False
    return rises(thing) and all([need in thing for number in thing for need in needs(book, number)])


def refuse_no_stand(book, thing):
    """NoStand of what is no stand of the book."""
    if not is_stand(book, thing):
        raise NoStand()


def stand_world(book, stand):
    """The world of just these lines; NoStand."""
    refuse_no_stand(book, stand)
    return book_world(book_of(book, stand))
