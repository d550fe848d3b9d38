"""Whole numbers, names and places, what the worlds and deeds are made of, and how rows of things run."""

LETTERS = "abcdefghijklmnopqrstuvwxyz"
LONGEST_NAME = 8
LAST_PLACE = 999


def is_whole(thing):
    """Whether the thing is a whole number; truths are none."""
    return isinstance(thing, int) and not isinstance(thing, bool)


def is_name(thing):
    """Whether the thing is a text of one to eight small letters."""
    if not isinstance(thing, str) or not 1 <= len(thing) <= LONGEST_NAME:
        return False
    return all([sign in LETTERS for sign in thing])


def is_within(thing, low, high):
    """Whether the thing, of any kind, is a whole number from low to high."""
    return is_whole(thing) and low <= thing <= high


def is_place(thing):
    """Whether the thing is a whole number from 0 to 999."""
    return is_within(thing, 0, LAST_PLACE)


def rises(things):
    """Whether each of the things is above the one ahead."""
    return all([ahead < thing for ahead, thing in zip(things, things[1:])])


def same_ahead(things, others):
    """How many things stand in both rows alike, up to the first that is unlike or missing in one."""
    alike = [thing == other for thing, other in zip(things, others)]
    return (alike + [False]).index(False)
