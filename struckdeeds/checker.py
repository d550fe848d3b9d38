"""The checker: whether a claim and its paper are so, whoever wrote them.

It trusts nobody: what a book, a need and a stand are is reckoned here anew, from worlds, deeds and rows alone.
"""

from struckdeeds.changes import only
from struckdeeds.deeds import ended_by, is_deed, made_by, must_stand
from struckdeeds.doings import back_deed
from struckdeeds.effects import effect
from struckdeeds.partings import behind, parts
from struckdeeds.touches import touch
from struckdeeds.words import is_name, is_within, rises, same_ahead
from struckdeeds.worlds import is_world

# What stands behind the word of a claim: b a book, r a row, w a world; of the first book s a stand, l lines, n a line.
FORMS = {"goes": "bll", "alike": "rr", "parted": "rr", "changes": "rr", "no changes": "rr",
         "leads": "bssw", "lifted": "bssn", "joined": "bb", "quarrel": "bb"}


def is_claim(thing):
    """Whether the thing, of any kind, has the form of a claim."""
    # What isn't a text may be no key at all.
    if not isinstance(thing, tuple) or len(thing) == 0 or not isinstance(thing[0], str) or thing[0] not in FORMS:
        return False
    form = FORMS[thing[0]]
    if len(thing) != len(form) + 1:
        return False
    # One by one, since what speaks of lines is asked of a book alone.
    for sign, part in zip(form, thing[1:]):
        if not is_part(sign, part, thing[1]):
            return False
    return True


def is_part(sign, part, book):
    """Whether a part of a claim is as the sign of its form asks."""
    if sign == "b":
        return is_book(part)
    if sign == "r":
        return is_row(part)
    if sign == "w":
        return is_world(part)
    if sign == "s":
        return is_stand(book, part)
    return is_number(book, part) if sign == "n" else are_lines(book, part)


def is_row(thing):
    """Whether the thing is a tuple of deeds."""
    return isinstance(thing, tuple) and all([is_deed(part) for part in thing])


def is_book(thing):
    """Whether the thing is a world and a tuple of lines that can be done from it on, no name made twice."""
    if not isinstance(thing, tuple) or len(thing) != 2 or not is_world(thing[0]) or not isinstance(thing[1], tuple):
        return False
    if not all([isinstance(line, tuple) and len(line) == 2 and is_name(line[0]) for line in thing[1]]):
        return False
    row = tuple([deed for hand, deed in thing[1]])
    if behind(thing[0], row) is None:
        return False
    names = [name for name, place, count in thing[0]]
    names += [made_by(deed) for deed in row if made_by(deed) is not None]
    return len(set(names)) == len(names)


def is_number(book, thing):
    """Whether the thing is the number of one of the book's lines."""
    return is_within(thing, 0, len(book[1]) - 1)


def are_lines(book, thing):
    """Whether the thing is a tuple of numbers of the book's lines."""
    return isinstance(thing, tuple) and all([is_number(book, part) for part in thing])


def is_stand(book, thing):
    """Whether the thing is a rising tuple of lines that holds with each of them all that it needs."""
    if not are_lines(book, thing) or not rises(thing):
        return False
    others = [number for number in range(len(book[1])) if number not in thing]
    return not any([is_needed(book, other, number) for number in thing for other in others])


def is_needed(book, number, by):
    """Whether the line of this number makes a name which must stand for the other line."""
    return made_by(deed_of(book, number)) in must_stand(deed_of(book, by))


def deed_of(book, number):
    """The deed of the line of this number."""
    return book[1][number][1]


def world_of(book, numbers):
    """The world behind the start and these lines."""
    return behind(book[0], tuple([deed_of(book, number) for number in numbers]))


def goes_so(claim, paper):
    """Whether just these lines go with the struck ones, each by its chain."""
    word, book, struck, gone = claim
    if not rises(gone) or not all([number in gone for number in struck]):
        return False
    stay = [number for number in range(len(book[1])) if number not in gone]
    if any([is_needed(book, number, by) for number in gone for by in stay]):
        return False
    ends = [number for number in gone if number not in struck]
    if not isinstance(paper, tuple) or len(paper) != len(ends):
        return False
    return all([is_chain(book, struck, chain, end) for chain, end in zip(paper, ends)])


def is_chain(book, struck, thing, end):
    """Whether the thing is a chain from a struck line to this end."""
    if not are_lines(book, thing) or len(thing) == 0 or thing[0] not in struck or thing[-1] != end:
        return False
    return all([is_needed(book, ahead, number) for ahead, number in zip(thing, thing[1:])])


def alike_so(claim, paper):
    """Whether the two rows are alike."""
    return paper is None and effect(claim[1]) == effect(claim[2])


def parted_so(claim, paper):
    """Whether the paper is a world that parts the two rows."""
    return is_world(paper) and parts(paper, claim[1], claim[2])


def changes_so(claim, paper):
    """Whether the first row becomes the other where neighbours change at these places."""
    if not isinstance(paper, tuple):
        return False
    here = list(claim[1])
    for at in paper:
        if not is_within(at, 0, len(here) - 2) or touch(here[at], here[at + 1]):
            return False
        here[at:at + 2] = [here[at + 1], here[at]]
    return tuple(here) == claim[2]


def no_changes_so(claim, paper):
    """Whether the paper tells a deed that is more often in one row, or two that touch and stand otherwise."""
    word, row, other = claim
    if not isinstance(paper, tuple) or not is_row(paper[1:]):
        return False
    unlike = [row.count(deed) != other.count(deed) for deed in paper[1:]]
    if len(paper) == 2:
        return paper[0] == "often" and unlike[0]
    if len(paper) != 3 or paper[0] != "order" or any(unlike):
        return False
    one, two = paper[1:]
    return one != two and touch(one, two) and only(row, one, two) != only(other, one, two)


def leads_so(claim, paper):
    """Whether the steps lead from the one stand to the other, which has this world."""
    word, book, here, wished, world = claim
    if not isinstance(paper, tuple):
        return False
    for step in paper:
        here = stand_behind(book, here, step)
        if here is None:
            return False
    return here == wished and world_of(book, here) == world


def stand_behind(book, stand, step):
    """The stand to which the step leads from this one, or None where it can't be gone."""
    if not isinstance(step, tuple) or len(step) != 3 or not is_number(book, step[1]) or not is_deed(step[2]):
        return None
    word, number, deed = step
    own = deed_of(book, number)
    if any([touch(own, deed_of(book, other)) for other in stand if other > number]):
        return None
    rest = tuple([other for other in stand if other != number])
    more = tuple(sorted(rest + (number,)))
    if word == "back" and number in stand and deed == back_deed(world_of(book, rest), own):
        return rest
    if word == "again" and number not in stand and deed == own and is_stand(book, more):
        return more
    return None


def lifted_so(claim, paper):
    """Whether the line stands and is lifted by those of the paper, each of which touches the next."""
    word, book, stand, wished, number = claim
    if number not in stand or not are_lines(book, paper) or paper[-1:] != (number,):
        return False
    if (paper[0] in stand) == (paper[0] in wished):
        return False
    return all([line in stand and ahead < line and touch(deed_of(book, ahead), deed_of(book, line))
                for ahead, line in zip(paper, paper[1:])])


def joined_so(claim, paper):
    """Whether the paper is a book of the shared lines and then all own ones of both."""
    word, one, other = claim
    if one[0] != other[0] or not is_book(paper) or paper[0] != one[0]:
        return False
    common = same_ahead(one[1], other[1])
    return paper[1][:common] == one[1][:common] and is_merged(paper[1][common:], one[1][common:], other[1][common:])


def is_merged(lines, ones, others):
    """Whether these are all lines of both, those of each in their order."""
    # Where the next lines of both are alike, either may be meant: all ways to tell them apart are kept.
    used = [0]
    for at, line in enumerate(lines):
        from_ones = [many + 1 for many in used if ones[many:many + 1] == (line,)]
        from_others = [many for many in used if others[at - many:at - many + 1] == (line,)]
        used = sorted(set(from_ones + from_others))
    return len(lines) == len(ones) + len(others) and len(ones) in used


def quarrel_so(claim, paper):
    """Whether the paper is a quarrel of the two books' own lines."""
    word, one, other = claim
    if one[0] != other[0] or not isinstance(paper, tuple) or len(paper) not in (3, 5):
        return False
    common = same_ahead(one[1], other[1])
    deeds = []
    for number, book in zip(paper[1:], (one, other, other, one)):
        if not is_within(number, common, len(book[1]) - 1):
            return False
        deeds.append(deed_of(book, number))
    if len(paper) == 3:
        return is_same_name(paper[0], deeds[0], deeds[1])
    i, j, k, l = paper[1:]
    return paper[0] == "round" and l <= i and j <= k and is_ahead(deeds[0], deeds[1]) and is_ahead(deeds[2], deeds[3])


def is_same_name(word, one, other):
    """Whether the two deeds make or end, as the word tells, the same name."""
    if word == "made":
        return made_by(one) is not None and made_by(one) == made_by(other)
    return word == "ended" and ended_by(one) is not None and ended_by(one) == ended_by(other)


def is_ahead(deed, ender):
    """Whether the deed must come ahead of the other, which ends a name that must stand for it."""
    return ended_by(ender) in must_stand(deed)


CHECKS = {"goes": goes_so, "alike": alike_so, "parted": parted_so, "changes": changes_so, "no changes": no_changes_so,
          "leads": leads_so, "lifted": lifted_so, "joined": joined_so, "quarrel": quarrel_so}


def holds(claim, paper):
    """Whether the claim is so and the paper shows it; False of things of any other kind."""
    if not is_claim(claim):
        return False
    check = CHECKS[claim[0]]
    return check(claim, paper)
