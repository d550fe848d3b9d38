"""Texts of worlds: NAME@PLACE:COUNT for each thing, with a comma and a blank between."""

from struckdeeds.errors import NoText
from struckdeeds.figures import read_whole, show_whole
from struckdeeds.worlds import is_thing

BETWEEN = ", "
NO_THINGS = "-"


def show_world(world):
    """The text of a world."""
    if len(world) == 0:
        return NO_THINGS
    return BETWEEN.join([show_thing(thing) for thing in world])


def show_thing(thing):
    """The text of one thing."""
    name, place, count = thing
    return f"{name}@{show_whole(place)}:{show_whole(count)}"


def read_world(text):
    """The world that is written so; NoText, with the number of the first wrong part, where none is."""
    if not isinstance(text, str):
        raise NoText(None)
    if text == NO_THINGS:
        return ()
    things = []
    for number, part in enumerate(text.split(BETWEEN)):
        thing = read_thing(part)
        if thing is None or (len(things) > 0 and thing[0] <= things[-1][0]):
            raise NoText(number)
        things.append(thing)
    return tuple(things)


def read_thing(text):
    """The thing that is written so, or None where the text is none."""
    name, at, behind_name = text.partition("@")
    place, colon, count = behind_name.partition(":")
    thing = (name, read_whole(place), read_whole(count))
    return thing if is_thing(thing) else None
