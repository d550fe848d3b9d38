"""Rows of deeds, done one behind the other, and the rows that lead back."""

from struckdeeds.doings import back_deed, done
from struckdeeds.errors import NoDeed, NoRow, NotNow
from struckdeeds.worlds import by_names, rising_by_names


def gone(world, row):
    """The world behind the row; NoRow where it can't be done."""
    return walked(world, row)[0]


def backs(world, row):
    """The back deeds of the row, the last one's first; NoRow where it can't be done."""
    return tuple(reversed(walked(world, row)[1]))


def walked(world, row):
    """The world behind the row, and the list of the back deeds, the first one's first."""
    # Built anew, since a row of no deeds tells a new world too.
    here = rising_by_names(by_names(world))
    back = []
    for number, deed in enumerate(row):
        try:
            back.append(back_deed(here, deed))
            here = done(here, deed)
        except (NoDeed, NotNow):
            raise NoRow(number) from None
    return here, back
