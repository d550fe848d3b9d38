"""Rows that are alike on every world, or a world that parts them."""

from struckdeeds.effects import effect
from struckdeeds.errors import NoRow
from struckdeeds.rows import gone
from struckdeeds.worlds import rising_by_names


def alike(row, other):
    """("alike",), or ("parted", world) with a world that parts the two rows."""
    one, two = effect(row), effect(other)
    if one == two:
        return ("alike",)
    worlds = worlds_to_try(one, two)
    at = 0
    while not parts(worlds[at], row, other):
        at += 1
    return ("parted", worlds[at])


def parts(world, row, other):
    """Whether just one of the rows can be done on the world, or they come to unlike worlds."""
    return behind(world, row) != behind(world, other)


def behind(world, row):
    """The world behind the row, or None where it can't be done."""
    try:
        return gone(world, row)
    except NoRow:
        return None


def worlds_to_try(one, two):
    """Worlds of which at least one parts any two rows of these unlike effects."""
    told = [part for part in (one, two) if part is not None]
    stand = told[0][0]
    # Where unlike names must stand, just one row can be done where only those of one row do.
    worlds = [world_of(part[0], None) for part in told]
    # Else a name that only one row wants free hinders that one alone.
    worlds += [world_of(stand + (name,), None) for part in told for name in part[1]]
    # Else all things at 0 show another plus or place, a marked one another origin of a count or a place.
    return worlds + [world_of(stand, name) for name in stand]


def world_of(names, marked):
    """The world of these names, all at place 0 with the count 0, but the marked one at 1 with 1."""
    return rising_by_names({name: (1, 1) if name == marked else (0, 0) for name in names})
