"""Deeds: tuples of a word and its parts, and which names they make, end and ask for."""

from struckdeeds.words import is_name, is_place, is_whole

# What stands behind each word: n a name, p a place, k a whole number.
FORMS = {"put": "npk", "take": "n", "move": "np", "count": "nk", "name": "nn", "split": "nnpk", "join": "nn"}


def form_of(word):
    """The signs of the parts behind this word, or None where no deed begins with it."""
    # What isn't a text may be no key at all.
    return FORMS.get(word) if isinstance(word, str) else None


def is_deed(thing):
    """Whether the thing, of any kind, is a deed."""
    if not isinstance(thing, tuple) or len(thing) == 0:
        return False
    form = form_of(thing[0])
    if form is None or len(thing) != len(form) + 1:
        return False
    if not all([fits(sign, part) for sign, part in zip(form, thing[1:])]):
        return False
    names = names_in(thing)
    return len(names) == 1 or names[0] != names[1]


def fits(sign, part):
    """Whether a part of a deed is as the sign of its form asks."""
    if sign == "n":
        return is_name(part)
    if sign == "p":
        return is_place(part)
    return is_whole(part)


def names_in(deed):
    """The deed's names, one or two, in its order."""
    return deed[1:3] if form_of(deed[0]).startswith("nn") else deed[1:2]


def made_by(deed):
    """The name that the deed makes, or None."""
    if deed[0] == "put":
        return deed[1]
    if deed[0] in ("name", "split"):
        return deed[2]
    return None


def ended_by(deed):
    """The name that the deed ends, or None."""
    if deed[0] in ("take", "name"):
        return deed[1]
    if deed[0] == "join":
        return deed[2]
    return None


def must_stand(deed):
    """The names that must stand for the deed, in its order."""
    made = made_by(deed)
    return tuple([name for name in names_in(deed) if name != made])
