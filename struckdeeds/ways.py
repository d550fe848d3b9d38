"""Ways from a stand to another one: lines taken back and done again."""

from struckdeeds.books import book_of, deeds_of
from struckdeeds.rows import walked
from struckdeeds.stands import refuse_no_stand
from struckdeeds.touches import touch


def lifted(book, stand, wished):
    """The rising tuple of the lines that must be taken back on any way to the wished stand; NoStand."""
    refuse_no_stand(book, stand)
    refuse_no_stand(book, wished)
    return lifted_between(book, stand, wished)


def way(book, stand, wished):
    """The steps from the stand to the wished one; NoStand."""
    refuse_no_stand(book, stand)
    refuse_no_stand(book, wished)
    return steps_between(book, stand, wished)


def lifted_between(book, stand, wished):
    """What is lifted from the one to the other; the lines of each are a book, all lines needn't be one."""
    deeds = deeds_of(book)
    coming = [number for number in wished if number not in stand]
    going = []
    for number in stand:
        ahead = [other for other in coming + going if other < number]
        if number not in wished or any([touch(deeds[other], deeds[number]) for other in ahead]):
            going.append(number)
    return tuple(going)


def steps_between(book, stand, wished):
    """The steps from the one to the other, of lines as with lifted_between."""
    deeds = deeds_of(book)
    going = lifted_between(book, stand, wished)
    # What still stands behind a line taken back doesn't touch it, so its back deed is the one of its own place.
    backs = dict(zip(stand, walked(book[0], deeds_of(book_of(book, stand)))[1]))
    steps = [("back", number, backs[number]) for number in reversed(going)]
    for number in wished:
        if number in going or number not in stand:
            steps.append(("again", number, deeds[number]))
    return tuple(steps)
