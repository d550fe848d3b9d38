"""Deeds done on worlds, and the deeds that lead back."""

from struckdeeds.deeds import is_deed, made_by, names_in
from struckdeeds.errors import NoDeed, NotNow
from struckdeeds.worlds import by_names, rising_by_names


def done(world, deed):
    """The world behind the deed; NoDeed or NotNow where it can't be done."""
    things = by_names(world)
    refuse_undoable(things, deed)
    change(things, deed)
    return rising_by_names(things)


def back_deed(world, deed):
    """The deed that, done behind this one, leads back to the world; NoDeed or NotNow as with done."""
    things = by_names(world)
    refuse_undoable(things, deed)
    word, name = deed[0], deed[1]
    if word == "put":
        return ("take", name)
    if word == "take":
        return ("put", name) + things[name]
    if word == "move":
        return ("move", name, things[name][0])
    if word == "count":
        return ("count", name, -deed[2])
    if word == "name":
        return ("name", deed[2], name)
    if word == "split":
        return ("join", name, deed[2])
    return ("split", name, deed[2]) + things[deed[2]]


def refuse_undoable(things, deed):
    """NoDeed of what is no deed, then NotNow with its first name that hinders it among the things."""
    if not is_deed(deed):
        raise NoDeed()
    made = made_by(deed)
    for name in names_in(deed):
        if (name in things) == (name == made):
            raise NotNow(name)


def change(things, deed):
    """Does a deed that can be done, on the dict of the things itself."""
    word, name = deed[0], deed[1]
    if word == "put":
        things[name] = (deed[2], deed[3])
    elif word == "take":
        del things[name]
    elif word == "move":
        things[name] = (deed[2], things[name][1])
    elif word == "count":
        add_count(things, name, deed[2])
    elif word == "name":
        things[deed[2]] = things.pop(name)
    elif word == "split":
        add_count(things, name, -deed[4])
        things[deed[2]] = (deed[3], deed[4])
    else:
        add_count(things, name, things[deed[2]][1])
        del things[deed[2]]


def add_count(things, name, more):
    """Gives the thing of this name so much more count."""
    place, count = things[name]
    things[name] = (place, count + more)
