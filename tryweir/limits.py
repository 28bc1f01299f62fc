"""Limits: the most tries of an ask, and the least per of a purse, with which a net keeps to a toll."""

from tryweir.errors import NoAsk, NoPurse
from tryweir.images import net_toll
from tryweir.nets import MOST_PER, MOST_TRIES, check_house
from tryweir.netyard import check_yard
from tryweir.ratios import less
from tryweir.yards import is_within


def changed(things, number, thing):
    """A tuple with another thing in the place of the one with this number."""
    return things[:number] + (thing,) + things[number + 1:]


def with_tries(net, at, ask, tries):
    """The net with so many tries of an ask of the house at."""
    house = net[0][at]
    asks = changed(house[1], ask, changed(house[1][ask], 1, tries))
    return (changed(net[0], at, (house[0], asks)), net[1])


def with_per(net, purse, per):
    """The net with so many shares for a coin of a purse."""
    return (net[0], changed(net[1], purse, changed(net[1][purse], 2, per)))


def check_ask(net, at, ask):
    """Refuses a number that no ask of the house at has, and that of an ever one."""
    asks = net[0][at][1]
    if not is_within(ask, 0, len(asks) - 1):
        raise NoAsk("no ask of the house has this number")
    if asks[ask][1] == 0:
        raise NoAsk("this ask is tried ever again")


def check_purse(net, purse):
    """Refuses a number that no purse has."""
    if not is_within(purse, 0, len(net[1]) - 1):
        raise NoPurse("no purse has this number")


def kept_by(nets, house, limit):
    """(count, paper, ring): how many nets, ahead of the first that doesn't, keep to the limit.

    The paper is one of the last that does, or None; the ring one of the first that doesn't, or None.
    """
    paper = None
    for count, net in enumerate(nets):
        told = net_toll(net, house)
        if told[0] == "swells" or less(limit, told[1][0]):
            return (count, paper, told[-1])
        paper = told[1]
    return (len(nets), paper, None)


def most_tries(net, house, at, ask, limit):
    """("most", tries, paper, ring), or ("none", ring) where the net doesn't keep to the limit with one try either."""
    check_house(net, house)
    check_house(net, at)
    check_ask(net, at, ask)
    # The toll never falls as tries grow: so the nets that keep to the limit come first.
    nets = [with_tries(net, at, ask, tries) for tries in range(1, MOST_TRIES + 1)]
    check_yard(nets[-1], house)
    kept = kept_by(nets, house, limit)
    return ("none", kept[2]) if kept[0] == 0 else ("most", kept[0], kept[1], kept[2])


def least_per(net, house, purse, limit):
    """("least", per, paper, ring), or ("none", ring) where the net doesn't keep to the limit with a per of 9 either."""
    check_house(net, house)
    check_purse(net, purse)
    # The toll never grows with per: so, from 9 down, the nets that keep to the limit come first.
    nets = [with_per(net, purse, MOST_PER - fewer) for fewer in range(MOST_PER)]
    kept = kept_by(nets, house, limit)
    return ("none", kept[2]) if kept[0] == 0 else ("least", MOST_PER + 1 - kept[0], kept[1], kept[2])
