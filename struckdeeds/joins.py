"""Books of two hands with one start: joined, or why they quarrel, or one carried behind the other."""

from struckdeeds.books import asking_for, book_of, deeds_of
from struckdeeds.deeds import ended_by, made_by, must_stand
from struckdeeds.errors import NoJoin
from struckdeeds.strikes import goes
from struckdeeds.words import same_ahead


def shared(one, other):
    """How many lines the two books share; NoJoin where their starts are unlike."""
    if one[0] != other[0]:
        raise NoJoin()
    return same_ahead(one[1], other[1])


def joined(one, other):
    """("joined", book) of the shared lines and all own ones, or ("quarrel", one that bars it); NoJoin."""
    common = shared(one, other)
    quarrel = same_name(one, other, common)
    if quarrel is not None:
        return ("quarrel", quarrel)
    lines = one[1][:common]
    here = there = common
    while here < len(one[1]) and there < len(other[1]):
        ahead_of_here = first_ahead_of(other, there, one[1][here])
        ahead_of_there = first_ahead_of(one, here, other[1][there])
        if ahead_of_here is None:
            lines += (one[1][here],)
            here += 1
        elif ahead_of_there is None:
            lines += (other[1][there],)
            there += 1
        else:
            # Each next line waits for one of the other book, which itself comes behind the other next line.
            return ("quarrel", ("round", ahead_of_there, there, ahead_of_here, here))
    return ("joined", (one[0], lines + one[1][here:] + other[1][there:]))


def same_name(one, other, common):
    """A quarrel about a name that own lines of both make or end, or None."""
    for i in own_lines(one, common):
        for j in own_lines(other, common):
            made, ended = made_by(one[1][i][1]), ended_by(one[1][i][1])
            if made is not None and made == made_by(other[1][j][1]):
                return ("made", i, j)
            if ended is not None and ended == ended_by(other[1][j][1]):
                return ("ended", i, j)
    return None


def own_lines(book, common):
    """The numbers of the lines behind the shared ones."""
    return list(range(common, len(book[1])))


def first_ahead_of(book, number, line):
    """The first line of the book, from this number on, that must come ahead of a line of another one, or None."""
    ahead = asking_for(book, own_lines(book, number), ended_by(line[1]))
    return ahead[0] if len(ahead) > 0 else None


def carried(one, other):
    """(book, gone): the first book and behind it the other's own lines that don't go; NoJoin."""
    common = shared(one, other)
    row = deeds_of(one)[common:]
    own = own_lines(other, common)
    gone = goes(other, tuple([number for number in own if is_barred(other[1][number][1], row)]))
    kept = book_of(other, [number for number in own if number not in gone])
    return ((one[0], one[1] + kept[1]), gone)


def is_barred(deed, row):
    """Whether a deed of the row ends a name that must stand for this deed, or makes the one that it makes."""
    made = made_by(deed)
    ended = [ended_by(ahead) for ahead in row]
    if any([name in ended for name in must_stand(deed)]):
        return True
    return made is not None and made in [made_by(ahead) for ahead in row]
