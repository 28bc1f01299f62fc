"""What comes: the places and deeds that rows from the empty stand can reach, and what stays shut."""

from tryweir.yards import is_within


def takes_within(deed, places):
    """Whether a deed takes nothing but what is among the places, a dict by place."""
    for place, number in deed[0]:
        if place not in places:
            return False
    return True


def makers_of(yard):
    """For each place that comes, in the order of their coming, the number of the deed that gave it first.

    So what a maker takes stands ahead of what it makes.
    """
    makers = {}
    before = -1
    while before < len(makers):
        before = len(makers)
        for number, deed in enumerate(yard[1]):
            if takes_within(deed, makers):
                for place, given in deed[1]:
                    makers.setdefault(place, number)
    return makers


def comes(yard):
    """The places that come, and the deeds that come."""
    makers = makers_of(yard)
    deeds = [number for number, deed in enumerate(yard[1]) if takes_within(deed, makers)]
    return (tuple(sorted(makers)), tuple(deeds))


def covering_row(yard, stand, makers):
    """A row that covers a stand with nothing at places without a maker."""
    wanted = list(stand)
    row = []
    # From the last place to come to the first: what a maker takes is wanted of places that are still ahead.
    for place in reversed(list(makers)):
        if wanted[place] > 0:
            deed = yard[1][makers[place]]
            given = dict(deed[1])[place]
            times = (wanted[place] + given - 1) // given
            row.append((makers[place], times))
            for taken, number in deed[0]:
                wanted[taken] += times * number
    return list(reversed(row))


def cover(yard, stand):
    """A row from the empty stand that covers the stand, or the places that don't come where there is none."""
    makers = makers_of(yard)
    missing = [place for place in range(yard[0]) if place not in makers]
    if any([stand[place] > 0 for place in missing]):
        return ("shut", tuple(missing))
    return ("row", covering_row(yard, stand, makers))


def are_places(yard, thing):
    """Whether the thing is a rising tuple of places of the yard."""
    if not isinstance(thing, tuple):
        return False
    lowest_free = 0
    for place in thing:
        if not is_within(place, lowest_free, yard[0] - 1):
            return False
        lowest_free = place + 1
    return True


def touches(side, places):
    """Whether one of the pairs that a deed takes, or gives, is of one of the places."""
    return any([place in places for place, number in side])


def is_shut(yard, places):
    """Whether each deed that gives one of the places takes one of them."""
    if not are_places(yard, places):
        return False
    inside = dict([(place, True) for place in places])
    return all([touches(deed[0], inside) for deed in yard[1] if touches(deed[1], inside)])
