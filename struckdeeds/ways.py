"""Ways from a stand to another one: lines taken back and done again."""

from struckdeeds.books import book_of, deeds_of
from struckdeeds.rows import walked
from struckdeeds.stands import refuse_no_stand
from struckdeeds.touches import touch


def lifted(book, stand, wished):
    """The rising tuple of the lines that must be taken back on any way to the wished stand; NoStand."""
    refuse_no_stand(book, stand)
    refuse_no_stand(book, wished)
    return lifted_between(book, stand, wished)


def way(book, stand, wished):
    """The steps from the stand to the wished one; NoStand."""
    refuse_no_stand(book, stand)
    refuse_no_stand(book, wished)
    return steps_between(book, stand, wished)


def lifted_between(book, stand, wished):
    """What is lifted from the one to the other; the lines of each are a book, all lines needn't be one."""
    return tuple(sorted(lifts_by_ends(book, stand, wished)))


def lifts_by_ends(book, stand, wished):
    """For each lifted line, by its number, lines that lead to it: one that goes or comes, then each lifts the next."""
    deeds = deeds_of(book)
    coming = {number: (number,) for number in wished if number not in stand}
    going = {}
    for number in stand:
        if number not in wished:
            going[number] = (number,)
            continue
        lifts = [lift for lift in list(coming.values()) + list(going.values())
                 if lift[-1] < number and touch(deeds[lift[-1]], deeds[number])]
        if len(lifts) > 0:
            going[number] = lifts[0] + (number,)
    return going


def steps_between(book, stand, wished):
    """The steps from the one to the other, of lines as with lifted_between."""
    deeds = deeds_of(book)
    going = lifted_between(book, stand, wished)
    # What still stands behind a line taken back doesn't touch it, so its back deed is the one of its own place.
    backs = dict(zip(stand, walked(book[0], deeds_of(book_of(book, stand)))[1]))
    steps = [("back", number, backs[number]) for number in reversed(going)]
    for number in wished:
        if number in going or number not in stand:
            steps.append(("again", number, deeds[number]))
    return tuple(steps)
