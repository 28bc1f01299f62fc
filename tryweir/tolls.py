"""Tolls: the least load that a yard's deeds can be held to for what they pay, with a paper and a ring."""

from tryweir.rings import NOUGHT, loads_of, settled
from tryweir.rows import load_of, pay_of


def toll(yard):
    """("toll", paper, ring) or ("swells", ring)."""
    told = settled(yard, loads_of(yard))
    if told[0] == "never":
        return ("swells", told[1])
    return ("toll", told[1], told[2])


def rounded_up(top, bottom):
    """The least whole number that is not below top by bottom."""
    return -(-top // bottom)


def rounds_to_swell(yard, ring, n):
    """How many rounds of a ring that swells it takes to a load of n."""
    return rounded_up(n - load_of(yard, ring[0]), load_of(yard, ring[1]))


def rounds_to_near(yard, ring, least, n):
    """How many rounds of a ring with the least toll, which is above 0, bring its whole row as near as asked."""
    # The loop has just the toll. So what the cover lacks of it is all that the whole row lacks, and each round
    # allows for it 1 by n of what the loop pays.
    top = least[0]
    bottom = least[1]
    paid = pay_of(yard, ring[0])
    lack = top * paid - bottom * load_of(yard, ring[0])
    return rounded_up(n * lack - bottom * paid, bottom * pay_of(yard, ring[1]))


def near(yard, n):
    """(cover, loop, rounds): a ring, and how often its loop is gone round to come near the toll by 1 by n."""
    told = toll(yard)
    ring = told[-1]
    if told[0] == "swells":
        rounds = rounds_to_swell(yard, ring, n)
    elif told[1][0] == NOUGHT:
        rounds = 1
    else:
        rounds = rounds_to_near(yard, ring, told[1][0], n)
    return (ring[0], ring[1], max(1, rounds))
