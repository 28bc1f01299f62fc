"""The judge of tolls: whether a paper holds, and what a ring shows, whoever wrote them."""

from tryweir.ratios import lowest
from tryweir.rings import bears, goes_round, loads_of
from tryweir.rows import load_of, pay_of


def pays(yard, paper):
    """Whether a paper holds."""
    return bears(yard, paper, loads_of(yard))


def shows(yard, ring):
    """("swells",), ("toll", r), or None where the pair of rows is no ring."""
    if not goes_round(yard, ring):
        return None
    load = load_of(yard, ring[1])
    pay = pay_of(yard, ring[1])
    if pay > 0:
        return ("toll", lowest(load, pay))
    return ("toll", (0, 1)) if load == 0 else ("swells",)
