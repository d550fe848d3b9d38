"""Whole numbers, names and places, what the worlds and deeds are made of, and rows that rise."""

LETTERS = "abcdefghijklmnopqrstuvwxyz"
LONGEST_NAME = 8
LAST_PLACE = 999


def is_whole(thing):
    """Whether the thing is a whole number; truths are none."""
    return isinstance(thing, int) and not isinstance(thing, bool)


def is_name(thing):
    """Whether the thing is a text of one to eight small letters."""
    if not isinstance(thing, str) or not 1 <= len(thing) <= LONGEST_NAME:
        return False
    return all([sign in LETTERS for sign in thing])


def is_place(thing):
    """Whether the thing is a whole number from 0 to 999."""
    return is_whole(thing) and 0 <= thing <= LAST_PLACE


def rises(things):
    """Whether each of the things is above the one ahead."""
    return all([ahead < thing for ahead, thing in zip(things, things[1:])])
