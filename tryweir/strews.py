"""Strewings: waits that grow, and are strewn by the errands' own numbers."""

from tryweir.words import is_whole
from tryweir.yards import is_tuple_of


def spread_of(strewing, j):
    """The product of the first j widths: on so many ticks, one behind the other, the j-th tries are strewn."""
    spread = 1
    for wait, width in strewing[:j]:
        spread *= width
    return spread


def start_of(strewing, j):
    """The sum of the first j waits: the first tick of all j-th tries."""
    return sum([wait for wait, width in strewing[:j]])


def waits_for(strewing, errand, j):
    """How many ticks an errand waits for its j-th try again."""
    ahead = spread_of(strewing, j - 1)
    return strewing[j - 1][0] + ahead * (errand // ahead % strewing[j - 1][1])


def tick_of(strewing, errand, j):
    """The tick at which an errand that failed at tick 0, and each time again, makes its j-th try again."""
    return start_of(strewing, j) + errand % spread_of(strewing, j)


def load_of_one(strewing, low, high, tick, j):
    """How many of the j-th tries of the errands from low on, below high, fall on a tick."""
    spread = spread_of(strewing, j)
    rest = tick - start_of(strewing, j)
    if not 0 <= rest < spread:
        return 0
    return (high - 1 - rest) // spread - (low - 1 - rest) // spread


def strew_load(strewing, low, high, tick):
    """How many of the tries again of the errands from low on, below high, fall on a tick."""
    return sum([load_of_one(strewing, low, high, tick, j) for j in range(1, len(strewing) + 1)])


def rises_of(strewing, low):
    """All ticks at which the load of errands whose numbers follow one another, from low on, can rise."""
    # The errands fill the ticks of the j-th tries one by one, from that of low on, past the last to the first, round
    # by round. So the load of these tries rises at their first tick, and at that of low, and nowhere else.
    ticks = []
    for j in range(1, len(strewing) + 1):
        ticks.extend([start_of(strewing, j), tick_of(strewing, low, j)])
    return sorted(ticks)


def peak(strewing, low, high):
    """The greatest load of a tick, of the errands from low on, below high, and the least tick that has it."""
    greatest = (0, 0)
    for tick in rises_of(strewing, low):
        load = strew_load(strewing, low, high, tick)
        if load > greatest[0]:
            greatest = (load, tick)
    return greatest


def is_pair(thing):
    """Whether the thing can be a pair of a strewing."""
    return is_tuple_of(thing, 2) and is_whole(thing[0]) and is_whole(thing[1]) and thing[0] >= 0 and thing[1] >= 1


def is_apart(strewing):
    """Whether tries with unlike j never fall on one tick, of whatever errands; what is no strewing is not apart."""
    if not isinstance(strewing, tuple) or len(strewing) == 0 or not all([is_pair(pair) for pair in strewing]):
        return False
    spread = strewing[0][1]
    for wait, width in strewing[1:]:
        # These tries begin so many ticks behind the first one of those ahead as the wait says.
        if wait < spread:
            return False
        spread *= width
    return True
