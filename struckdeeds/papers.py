"""Papers: for each question the claim that is true, with what shows it to the checker."""

from struckdeeds.changes import changed
from struckdeeds.joins import joined
from struckdeeds.partings import alike
from struckdeeds.stands import stand_world
from struckdeeds.strikes import chains, goes
from struckdeeds.ways import lifted, lifts_by_ends, way


def paper_goes(book, struck):
    """What goes with the struck lines, and the chains; NoLine."""
    return (("goes", book, struck, goes(book, struck)), chains(book, struck))


def paper_rows(row, other):
    """That the rows are alike, or parted, with a world that parts them."""
    word, *worlds = alike(row, other)
    return ((word, row, other), worlds[0] if word == "parted" else None)


def paper_changes(row, other):
    """That the row comes to the other by changing places, with the places, or that it doesn't, with what bars it."""
    told = changed(row, other)
    if told[0] == "changes":
        return (("changes", row, other), told[1])
    return (("no changes", row, other), told)


def paper_way(book, stand, wished):
    """That one comes from the stand to the wished one and its world, and the way; NoStand."""
    steps = way(book, stand, wished)
    return (("leads", book, stand, wished, stand_world(book, wished)), steps)


def paper_lifted(book, stand, wished):
    """For each lifted line, rising, that it must be taken back, and the lines by which it is lifted; NoStand."""
    numbers = lifted(book, stand, wished)
    lifts = lifts_by_ends(book, stand, wished)
    return tuple([(("lifted", book, stand, wished, number), lifts[number]) for number in numbers])


def paper_joined(one, other):
    """That the books are joined, with a book of both, or that they quarrel, with a quarrel; NoJoin."""
    word, told = joined(one, other)
    return ((word, one, other), told)
