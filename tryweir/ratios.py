"""Ratios: tuples (top, bottom) in lowest terms, the bottom from 1 on."""

from tryweir.errors import NoRatio
from tryweir.words import is_whole


def common(one, other):
    """The greatest number that divides both, not below 0; 0 where both are 0."""
    upper = abs(one)
    lower = abs(other)
    while lower != 0:
        rest = upper % lower
        upper = lower
        lower = rest
    return upper


def lowest(top, bottom):
    """The ratio of two whole numbers, the second one not 0."""
    divisor = common(top, bottom)
    if bottom < 0:
        divisor = -divisor
    return (top // divisor, bottom // divisor)


def ratio(top, bottom=1):
    """The ratio of top by bottom."""
    if not is_whole(top) or not is_whole(bottom):
        raise NoRatio("a ratio is made of whole numbers")
    if bottom == 0:
        raise NoRatio("no ratio has nought below")
    return lowest(top, bottom)


def plus(one, other):
    """The sum of two ratios."""
    return lowest(one[0] * other[1] + other[0] * one[1], one[1] * other[1])


def minus(one, other):
    """The first ratio less the second."""
    return lowest(one[0] * other[1] - other[0] * one[1], one[1] * other[1])


def times(one, other):
    """The product of two ratios."""
    return lowest(one[0] * other[0], one[1] * other[1])


def over(one, other):
    """The first ratio by the second."""
    if other[0] == 0:
        raise NoRatio("no ratio is divided by nought")
    return lowest(one[0] * other[1], one[1] * other[0])


def less(one, other):
    """Whether the first ratio lies below the second."""
    return one[0] * other[1] < other[0] * one[1]


def floor_of(one):
    """The greatest whole number that is not above the ratio."""
    return one[0] // one[1]


def is_ratio(thing):
    """Whether the thing is a ratio."""
    if not isinstance(thing, tuple) or len(thing) != 2:
        return False
    if not is_whole(thing[0]) or not is_whole(thing[1]) or thing[1] < 1:
        return False
    return common(thing[0], thing[1]) == 1


def on_one_bottom(ratios):
    """The tops of some ratios, all over one bottom, and this bottom."""
    bottom = 1
    for one in ratios:
        bottom = bottom // common(bottom, one[1]) * one[1]
    return ([one[0] * (bottom // one[1]) for one in ratios], bottom)
