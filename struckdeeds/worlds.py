"""Worlds: tuples of things (name, place, count), rising by their names."""

from struckdeeds.words import is_name, is_place, is_whole, rises


def is_thing(thing):
    """Whether it is a tuple of a name, a place and a count."""
    if not isinstance(thing, tuple) or len(thing) != 3:
        return False
    return is_name(thing[0]) and is_place(thing[1]) and is_whole(thing[2])


def is_world(thing):
    """Whether it is a tuple of things, rising by their names, no name twice."""
    if not isinstance(thing, tuple) or not all([is_thing(part) for part in thing]):
        return False
    return rises([part[0] for part in thing])


def thing_of(world, name):
    """The world's thing of this name, or None where the name doesn't stand."""
    for standing, place, count in world:
        if standing == name:
            return (standing, place, count)
    return None


def by_names(world):
    """A new dict of the world's places and counts, by the names."""
    return {name: (place, count) for name, place, count in world}


def rising_by_names(things):
    """A tuple of what a dict holds by names, each with its name ahead; of what by_names told, the world."""
    return tuple([(name,) + things[name] for name in sorted(things)])
