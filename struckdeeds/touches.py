"""Deeds that touch one another, so that their order matters."""

from struckdeeds.deeds import names_in

ADDING = ("count", "split", "join")


def touch(one, other):
    """Whether the two deeds touch."""
    return any([name in names_in(other) and not may_share(one, other, name) for name in names_in(one)])


def may_share(one, other, name):
    """Whether of this name both deeds only add to the count, or one of them does and the other moves it."""
    uses = (use_of(one, name), use_of(other, name))
    return "add" in uses and "more" not in uses


def use_of(deed, name):
    """What the deed does with one of its names: add only to its count, move it, or more than that."""
    if deed[0] == "move":
        return "move"
    return "add" if deed[0] in ADDING and deed[1] == name else "more"
