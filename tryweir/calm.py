"""Calm and crowds: whether deeds that pay nothing come to an end, and how many can stand at a place."""

from tryweir.ratios import less, plus
from tryweir.rings import NOUGHT, bears, settled

ONE = (1, 1)


def own_loads(yard):
    """1 for each deed that pays nothing: then a paper that bears it has weights that fall by 1 with each of them."""
    return [1 if deed[3] == 0 else None for deed in yard[1]]


def changes_at(yard, place):
    """For each deed what it gives at the place less what it takes there."""
    return [dict(deed[1]).get(place, 0) - dict(deed[0]).get(place, 0) for deed in yard[1]]


def calm(yard):
    """("calm", paper) or ("rings", ring)."""
    told = settled(yard, own_loads(yard))
    if told[0] == "never":
        return ("rings", told[1])
    return ("calm", (told[1][1], told[1][2]))


def calms(yard, paper):
    """Whether a calm paper holds."""
    return bears(yard, (NOUGHT, paper[0], paper[1]), own_loads(yard))


def crowd(yard, place):
    """("crowd", (s, weights, shut), ring) or ("swells", ring)."""
    # What comes to stand at the place counts as load. So the least toll of it is the crowd, and each thing at the
    # place weighs, beside its weight as a means to more of them, the 1 that it is itself.
    told = settled(yard, changes_at(yard, place))
    if told[0] == "never":
        return ("swells", told[1])
    weights = list(told[1][1])
    weights[place] = plus(weights[place], ONE)
    return ("crowd", (told[1][0], tuple(weights), told[1][2]), told[2])


def crowds(yard, place, paper):
    """Whether what is told of a place's crowd holds."""
    if place not in paper[2] and less(paper[1][place], ONE):
        return False
    return bears(yard, paper, [0 for deed in yard[1]])
