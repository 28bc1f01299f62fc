"""A net's yard: the chains of its errands and its purses as places, and what can come to them as deeds."""

from tryweir.errors import TooMany
from tryweir.nets import asked_by, check_house
from tryweir.runs import FRESH, Errand, Run, asks_of, events_by_tries, let_come
from tryweir.yards import MOST_DEEDS, MOST_PLACES

STANDS = -1


def chains_from(net, house):
    """All chains that begin at a house."""
    asks = net[0][house][1]
    if len(asks) == 0:
        return [((), house)]
    chains = []
    for at, ask in enumerate(asks):
        beneath = [((), STANDS)] + chains_from(net, asked_by(net, ask))
        for tried in range(1, (2 if ask[1] == 0 else ask[1]) + 1):
            chains.extend([(((house, at, tried),) + steps, end) for steps, end in beneath])
    return chains


def first_houses(net):
    """The houses at which chains begin."""
    found = [0]
    for house in net[0]:
        found.extend([asked_by(net, ask) for ask in house[1] if not ask[5]])
    return sorted(set(found))


def places_of(net):
    """The places of a net: its chains, sorted, and behind them the shares and the coins of each purse."""
    chains = []
    for house in first_houses(net):
        chains.extend(chains_from(net, house))
    places = sorted(chains)
    for purse in range(len(net[1])):
        places.extend([(purse, "shares"), (purse, "coins")])
    if len(places) > MOST_PLACES:
        raise TooMany("the net has too many places")
    return tuple(places)


def numbered(things):
    """The number of each thing."""
    return dict([(thing, number) for number, thing in enumerate(things)])


def step_of(run, number):
    """The step of an errand that waits or stands."""
    errand = run.errands[number]
    at = errand.state[1]
    tried = errand.state[2]
    is_ever = asks_of(run, number)[at][1] == 0
    return (errand.house, at, min(tried, 2) if is_ever else tried)


def line_of(run, number):
    """An errand that has not ended, the errand that it waits for, and so on down to the one that works or stands."""
    line = [number]
    while run.errands[line[-1]].state[0] == "waits":
        line.append(run.errands[line[-1]].asked)
    return line


def chain_of(run, number):
    """The chain of a leading errand that has not ended."""
    line = line_of(run, number)
    last = run.errands[line[-1]]
    if last.state[0] == "works":
        return (tuple([step_of(run, one) for one in line[:-1]]), last.house)
    return (tuple([step_of(run, one) for one in line]), STANDS)


def is_leading(run, number):
    """Whether nobody waits for an errand."""
    return run.errands[number].caller is None or run.errands[number].is_lost


def is_at_place(run, number):
    """Whether an errand is leading and has not ended."""
    return is_leading(run, number) and run.errands[number].state[0] != "ended"


def run_at(net, chain):
    """A run with one leading errand, which has this chain; its errands are numbered down the chain."""
    run = Run(net)
    caller = None
    for step in chain[0]:
        errand = Errand(step[0], caller)
        errand.state = ("waits", step[1], step[2])
        caller = (len(run.errands), step[1], step[2])
        run.errands.append(errand)
        errand.asked = len(run.errands)
    if chain[1] == STANDS:
        run.errands[-1].state = ("stands", caller[1], caller[2])
    else:
        run.errands.append(Errand(chain[1], caller))
    return run


def side_of(places):
    """What a deed takes, or gives, of places that may stand here several times."""
    counts = {}
    for place in places:
        counts[place] = counts.get(place, 0) + 1
    return tuple(sorted(counts.items()))


def deed_of(net, house, spots, chain, event):
    """The deed of an event that comes to a chain, or to none where it is fresh; spots tells each place's number."""
    run = Run(net) if chain is None else run_at(net, chain)
    takes = [] if chain is None else [spots[chain]]
    begun = len(run.errands)
    let_come(run, event)
    gives = [spots[chain_of(run, number)] for number in range(len(run.errands)) if is_at_place(run, number)]
    for purse in range(len(net[1])):
        takes.extend([spots[(purse, "coins")] for coin in range(run.taken[purse])])
        gives.extend([spots[(purse, "shares")] for errand in run.puts[purse]])
    load = len([errand for errand in run.errands[begun:] if errand.house == house])
    return (side_of(takes), side_of(gives), load, 1 if chain is None else 0)


def coin_deed(net, spots, purse):
    """The deed by which a purse makes a coin."""
    return (((spots[(purse, "shares")], net[1][purse][2]),), ((spots[(purse, "coins")], 1),), 0, 0)


def events_of(net, chain):
    """All events that can come to the errands of a chain, coins aside, by their numbers down the chain."""
    run = run_at(net, chain)
    events = []
    for number in range(len(run.errands)):
        events.extend(events_by_tries(run, number))
    return events


def ways_of(net, house):
    """For each deed of the yard a chain and an event that do it: no chain of a fresh one, neither of a coin's."""
    check_house(net, house)
    places = places_of(net)
    spots = numbered(places)
    ways = {deed_of(net, house, spots, None, FRESH): (None, FRESH)}
    for chain in places[:len(places) - 2 * len(net[1])]:
        for event in events_of(net, chain):
            ways[deed_of(net, house, spots, chain, event)] = (chain, event)
    for purse in range(len(net[1])):
        ways[coin_deed(net, spots, purse)] = (None, None)
    if len(ways) > MOST_DEEDS:
        raise TooMany("the net's yard has too many deeds")
    return ways


def yard_of(net, house):
    """The yard of a net, for a measured house."""
    # The ways come first: they refuse what is to be refused in its order.
    deeds = tuple(sorted(ways_of(net, house)))
    return (len(places_of(net)), deeds)


def check_yard(net, house):
    """Refuses a number that no house has, and then a net whose yard is too great."""
    ways_of(net, house)
