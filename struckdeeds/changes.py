"""Rows that come to one another where neighbours that don't touch change places."""

from struckdeeds.touches import touch


def changed(row, other):
    """("changes", places) by which the row becomes the other, or ("often", deed) or ("order", one, other)."""
    for deed in row + other:
        if row.count(deed) != other.count(deed):
            return ("often", deed)
    deeds = sorted(set(row))
    for one in deeds:
        for two in deeds:
            if one < two and touch(one, two) and only(row, one, two) != only(other, one, two):
                return ("order", one, two)
    return ("changes", places_to(row, other))


def only(row, one, two):
    """The row of just these two deeds, all others left out."""
    return [deed for deed in row if deed in (one, two)]


def places_to(row, other):
    """The places at which neighbours change, in turn, so that the row becomes the other."""
    here = list(row)
    places = []
    for at, deed in enumerate(other):
        # What stands ahead of the first such deed comes behind it in the other row, so it doesn't touch it.
        found = here.index(deed, at)
        places += list(range(found - 1, at - 1, -1))
        here.insert(at, here.pop(found))
    return tuple(places)


def least_row(row):
    """The least of all rows to which the row comes by changing places."""
    rest = list(row)
    least = []
    while len(rest) > 0:
        first = min([deed for at, deed in enumerate(rest) if not any([touch(deed, ahead) for ahead in rest[:at]])])
        least.append(first)
        rest.remove(first)
    return tuple(least)
