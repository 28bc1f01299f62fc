"""Yards: places at which things stand, and deeds that take some and give some."""

from tryweir.errors import NoDeed
from tryweir.words import is_whole

MOST_PLACES = 100
MOST_DEEDS = 400
MOST_MOVED = 99
MOST_COUNTED = 999


def is_within(thing, low, high):
    """Whether the thing is a whole number from low to high."""
    return is_whole(thing) and low <= thing <= high


def is_tuple_of(thing, size):
    """Whether the thing is a tuple with so many parts."""
    return isinstance(thing, tuple) and len(thing) == size


def is_side(many, thing):
    """Whether the thing can be what a deed takes, or gives, where there are so many places."""
    if not isinstance(thing, tuple):
        return False
    lowest_free = 0
    for pair in thing:
        if not is_tuple_of(pair, 2) or not is_within(pair[0], lowest_free, many - 1):
            return False
        if not is_within(pair[1], 1, MOST_MOVED):
            return False
        lowest_free = pair[0] + 1
    return True


def is_deed(many, thing):
    """Whether the thing is a deed of a yard with so many places."""
    if not is_tuple_of(thing, 4) or not is_side(many, thing[0]) or not is_side(many, thing[1]):
        return False
    return is_within(thing[2], 0, MOST_COUNTED) and is_within(thing[3], 0, MOST_COUNTED)


def is_yard(thing):
    """Whether the thing is a yard."""
    if not is_tuple_of(thing, 2) or not is_within(thing[0], 0, MOST_PLACES):
        return False
    if not isinstance(thing[1], tuple) or len(thing[1]) > MOST_DEEDS:
        return False
    return all([is_deed(thing[0], deed) for deed in thing[1]])


def empty(yard):
    """The stand with nothing at any place."""
    return tuple([0 for place in range(yard[0])])


def done(yard, stand, deed):
    """The stand behind the deed with this number, done once."""
    takes = yard[1][deed][0]
    gives = yard[1][deed][1]
    if any([stand[place] < number for place, number in takes]):
        raise NoDeed(0)
    behind = list(stand)
    for place, number in takes:
        behind[place] -= number
    for place, number in gives:
        behind[place] += number
    return tuple(behind)
