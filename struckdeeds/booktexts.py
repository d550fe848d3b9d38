"""Texts of books: the start in the first row, and a row HAND: DEED for each line."""

from struckdeeds.books import checked_book
from struckdeeds.deedtexts import read_deed, show_deed
from struckdeeds.errors import NoBook, NoText
from struckdeeds.worldtexts import read_world, show_world

START = "start "
BEHIND_HAND = ": "


def show_book(book):
    """The text of a book."""
    start, lines = book
    return "\n".join([START + show_world(start)] + [hand + BEHIND_HAND + show_deed(deed) for hand, deed in lines])


def read_book(text):
    """The book that is written so; NoText, with the number of the first wrong row, where none is."""
    if not isinstance(text, str):
        raise NoText(None)
    first, *rows = text.split("\n")
    try:
        return checked_book((read_start(first), tuple([read_line(row) for row in rows])))
    except NoBook as refusal:
        # The start has the row ahead of all lines, and no number.
        raise NoText(0 if refusal.number is None else refusal.number + 1) from None


def read_start(row):
    """The world that the first row tells, or None where it tells none."""
    try:
        return read_world(row[len(START):]) if row.startswith(START) else None
    except NoText:
        return None


def read_line(row):
    """The line that the row tells, or None where it tells none; its hand may be no name."""
    hand, between, deed = row.partition(BEHIND_HAND)
    try:
        return (hand, read_deed(deed))
    except NoText:
        return None
