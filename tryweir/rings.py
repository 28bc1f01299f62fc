"""Rings: what tolls, calm, crowds and their judges share.

LOADS are a list with a number for each deed of a yard, or None for a deed that is not asked: the deeds' own loads
for a toll, and others for calm and crowds. A paper (toll, weights, shut) BEARS them where each asked deed that takes
none of shut pays for its load.
"""

from tryweir.coming import comes, cover, is_shut, touches
from tryweir.errors import NoDeed
from tryweir.ratios import on_one_bottom
from tryweir.rows import change_of, flows, is_row, need_at, need_of, walked
from tryweir.sums import least_sums
from tryweir.yards import empty

NOUGHT = (0, 1)


def loads_of(yard):
    """The loads of the deeds themselves."""
    return [deed[2] for deed in yard[1]]


def demand_of(yard, number, load):
    """That a deed pays for a load: a demand on the toll, and behind it on the weights."""
    numbers = [yard[1][number][3]] + [0 for place in range(yard[0])]
    for place, taken, given in flows(yard, number):
        numbers[1 + place] = taken - given
    return (tuple(numbers), load)


def lack_of(yard, stand, step):
    """How many a stand lacks, at all places together, for a pair of a row to be walked from it."""
    return sum([max(0, need_at(taken, given, step[1]) - stand[place]) for place, taken, given in flows(yard, step[0])])


def in_order(yard, loop):
    """The pairs of a loop, one behind the other so that each next one is that which lacks least."""
    # Any order makes a ring, but the less the loop lacks the shorter is its cover: most loops need none then.
    stand = list(empty(yard))
    left = list(loop)
    ordered = []
    while len(left) > 0:
        lacks = [lack_of(yard, stand, step) for step in left]
        step = left.pop(lacks.index(min(lacks)))
        ordered.append(step)
        for place, taken, given in flows(yard, step[0]):
            stand[place] = max(stand[place], need_at(taken, given, step[1])) + step[1] * (given - taken)
    return ordered


def ring_of(yard, deeds, shares):
    """The ring that does each of the deeds, which come, as often as its share says, as against the others."""
    tops = on_one_bottom(shares)[0]
    loop = in_order(yard, [(number, top) for number, top in zip(deeds, tops) if top > 0])
    return (cover(yard, need_of(yard, loop))[1], loop)


def goes_round(yard, pair):
    """Whether a pair of rows is a ring."""
    if not is_row(yard, pair[0]) or not is_row(yard, pair[1]):
        return False
    try:
        walked(yard, walked(yard, empty(yard), pair[0]), pair[1])
    except NoDeed:
        return False
    return all([number >= 0 for number in change_of(yard, pair[1])])


def settled(yard, loads):
    """("least", paper, ring): the paper with the least toll that bears the loads, and a ring with just this toll.

    Or ("never", ring), where none bears them: a ring with a load that pays nothing.
    """
    coming = comes(yard)
    deeds = [number for number in coming[1] if loads[number] is not None]
    demands = [demand_of(yard, number, loads[number]) for number in deeds]
    told = least_sums(demands, tuple([1] + [0 for place in range(yard[0])]))
    if told[0] == "never":
        return ("never", ring_of(yard, deeds, told[1]))
    point = told[1]
    shut = tuple([place for place in range(yard[0]) if place not in coming[0]])
    # Above nought the shares pay just 1 in all, so their ring has just this toll; a toll of nought needs no ring.
    ring = ([], []) if point[0] == NOUGHT else ring_of(yard, deeds, told[2])
    return ("least", (point[0], point[1:], shut), ring)


def is_borne(yard, number, load, tops, bottom):
    """Whether a deed pays for its load, where tops, over the bottom, are the toll and the weights."""
    room = tops[0] * yard[1][number][3] - load * bottom
    return room + sum([tops[1 + place] * (taken - given) for place, taken, given in flows(yard, number)]) >= 0


def bears(yard, paper, loads):
    """Whether a paper, of any ratios, bears the loads."""
    ratios = [paper[0]] + list(paper[1])
    if any([one[0] < 0 for one in ratios]) or not is_shut(yard, paper[2]):
        return False
    scaled = on_one_bottom(ratios)
    inside = dict([(place, True) for place in paper[2]])
    for number, load in enumerate(loads):
        if load is not None and not touches(yard[1][number][0], inside):
            if not is_borne(yard, number, load, scaled[0], scaled[1]):
                return False
    return True
