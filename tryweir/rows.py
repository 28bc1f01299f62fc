"""Rows: deeds done one behind the other, each so many times."""

from tryweir.errors import NoDeed
from tryweir.words import is_whole
from tryweir.yards import empty, is_tuple_of, is_within


def is_step(yard, thing):
    """Whether the thing is a pair of a deed's number and how many times it is done."""
    if not is_tuple_of(thing, 2) or not is_within(thing[0], 0, len(yard[1]) - 1):
        return False
    return is_whole(thing[1]) and thing[1] >= 1


def is_row(yard, thing):
    """Whether the thing is a row of the yard."""
    if not isinstance(thing, (list, tuple)):
        return False
    return all([is_step(yard, step) for step in thing])


def flows(yard, number):
    """For each place that a deed takes or gives: the place, how many it takes there, how many it gives."""
    deed = yard[1][number]
    taken = dict(deed[0])
    given = dict(deed[1])
    places = sorted(set(taken) | set(given))
    return [(place, taken.get(place, 0), given.get(place, 0)) for place in places]


def need_at(taken, given, times):
    """How many must stand at a place for a deed that takes and gives so many there to be done so many times."""
    # Each time but the last must leave what the next one takes: only what isn't given back is needed anew.
    return taken + (times - 1) * max(0, taken - given)


def walked(yard, stand, row):
    """The stand behind a row that is walked from a stand."""
    now = list(stand)
    for at, step in enumerate(row):
        moved = flows(yard, step[0])
        if any([now[place] < need_at(taken, given, step[1]) for place, taken, given in moved]):
            raise NoDeed(at)
        for place, taken, given in moved:
            now[place] += step[1] * (given - taken)
    return tuple(now)


def load_of(yard, row):
    """The load of all deeds of a row."""
    return sum([yard[1][number][2] * times for number, times in row])


def pay_of(yard, row):
    """The pay of all deeds of a row."""
    return sum([yard[1][number][3] * times for number, times in row])


def change_of(yard, row):
    """What all deeds of a row give less what they take, place by place."""
    change = list(empty(yard))
    for number, times in row:
        for place, taken, given in flows(yard, number):
            change[place] += times * (given - taken)
    return tuple(change)


def need_of(yard, row):
    """The least stand from which a row can be walked."""
    need = list(empty(yard))
    change = list(empty(yard))
    for number, times in row:
        for place, taken, given in flows(yard, number):
            need[place] = max(need[place], need_at(taken, given, times) - change[place])
            change[place] += times * (given - taken)
    return tuple(need)
