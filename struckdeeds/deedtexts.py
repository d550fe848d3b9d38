"""Texts of deeds: their parts with one blank between."""

from struckdeeds.deeds import form_of, is_deed
from struckdeeds.errors import NoText
from struckdeeds.figures import read_whole, show_whole


def show_deed(deed):
    """The text of a deed."""
    return " ".join([part if isinstance(part, str) else show_whole(part) for part in deed])


def read_deed(text):
    """The deed that is written so; NoText, its part None, where none is."""
    if not isinstance(text, str):
        raise NoText(None)
    word, *parts = text.split(" ")
    form = form_of(word)
    if form is None or len(parts) != len(form):
        raise NoText(None)
    # A number that isn't one is read as None, which no deed has.
    deed = (word,) + tuple([part if sign == "n" else read_whole(part) for sign, part in zip(form, parts)])
    if not is_deed(deed):
        raise NoText(None)
    return deed
