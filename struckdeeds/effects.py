"""The effect of a row: what it asks of a world, and what it leaves there."""

from struckdeeds.worlds import rising_by_names


def effect(row):
    """The effect (stand, free, left) of the row, or None where it can be done on no world."""
    whole = ((), (), ())
    for deed in row:
        whole = effect_behind(whole, deed_effect(deed))
        if whole is None:
            return None
    return whole


def effect_behind(one, other):
    """The effect of a row of the first effect and then one of the other, or None."""
    between = by_left_names(one)
    if clash(one, between, other):
        return None
    known = one[0] + one[1]
    stand = one[0] + tuple([name for name in other[0] if name not in known])
    free = one[1] + tuple([name for name in other[1] if name not in known])
    # What the first row doesn't speak of is between them as it was at first.
    for name in stand:
        if name not in known:
            between[name] = (name, (name,), 0)
    behind = {name: between[name] for name in between if name not in other[0]}
    for name, place, froms, plus in other[2]:
        behind[name] = told_at_first(between, place, froms, plus)
    return (rising(stand), rising(free), rising_by_names(behind))


def deed_effect(deed):
    """The effect of the row of this deed alone."""
    word, name = deed[0], deed[1]
    if word == "put":
        return ((), (name,), ((name, deed[2], (), deed[3]),))
    if word == "take":
        return ((name,), (), ())
    if word == "move":
        return ((name,), (), ((name, deed[2], (name,), 0),))
    if word == "count":
        return ((name,), (), ((name, name, (name,), deed[2]),))
    other = deed[2]
    if word == "name":
        return ((name,), (other,), ((other, name, (name,), 0),))
    if word == "split":
        parts = {name: (name, (name,), -deed[4]), other: (deed[3], (), deed[4])}
        return ((name,), (other,), rising_by_names(parts))
    both = rising((name, other))
    return (both, (), ((name, name, both, 0),))


def clash(one, between, other):
    """Whether no world behind the first effect is one that the other can be done on."""
    missing = [name for name in other[0] if name in one[0] + one[1] and name not in between]
    in_the_way = [name for name in other[1] if name in between]
    return len(missing) > 0 or len(in_the_way) > 0


def told_at_first(between, place, froms, plus):
    """A place and a sum that speak of what is between two rows, told by what was at first."""
    if isinstance(place, str):
        place = between[place][0]
    firsts = ()
    for name in froms:
        firsts += between[name][1]
        plus += between[name][2]
    return (place, rising(firsts), plus)


def by_left_names(told):
    """A new dict of an effect's places, froms and pluses, by the names that are left."""
    return {name: (place, froms, plus) for name, place, froms, plus in told[2]}


def rising(names):
    """The names as a rising tuple."""
    return tuple(sorted(names))
