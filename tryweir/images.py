"""Images: a net's runs as rows of its yard, its yard's rows as runs, its toll, and what a run owes."""

from tryweir.netyard import chain_of, check_yard, coin_deed, deed_of, is_at_place, is_leading, line_of, numbered
from tryweir.netyard import places_of, ways_of, yard_of
from tryweir.ratios import lowest, on_one_bottom
from tryweir.runs import Run, check_event, coins_made, let_come, purse_told, run_of
from tryweir.tolls import toll


def leader_of(run, number):
    """The leading errand above an errand that has not ended."""
    while not is_leading(run, number):
        number = run.errands[number].caller[0]
    return number


def deed_in(run, house, spots, event):
    """The deed of an event that can come next in a run."""
    if event[0] == "fresh":
        return deed_of(run.net, house, spots, None, event)
    leader = leader_of(run, event[1])
    named = (event[0], line_of(run, leader).index(event[1])) + event[2:]
    return deed_of(run.net, house, spots, chain_of(run, leader), named)


def image(net, house, events):
    """The row of the net's yard that a run is: each event's deed, and behind it those of the coins that it made."""
    numbers = numbered(yard_of(net, house)[1])
    spots = numbered(places_of(net))
    run = Run(net)
    row = []
    for event in events:
        check_event(run, event)
        row.append((numbers[deed_in(run, house, spots, event)], 1))
        made = [coins_made(run, purse) for purse in range(len(net[1]))]
        let_come(run, event)
        for purse, before in enumerate(made):
            coin = numbers[coin_deed(net, spots, purse)]
            row.extend([(coin, 1) for time in range(before, coins_made(run, purse))])
    return row


def act(run, leaders, way):
    """Lets an event come that does a deed in this way, and tells it; leaders tells the errands of each chain."""
    leader = len(run.errands)
    event = way[1]
    if way[0] is not None:
        leader = leaders[way[0]].pop()
        event = (event[0], line_of(run, leader)[event[1]]) + event[2:]
    let_come(run, event)
    # Of all errands none but these can have come to a chain: what was led here, and what was cut off from it.
    for number in [leader] + ([event[1]] if event[0] == "lost" else []):
        if is_at_place(run, number):
            leaders.setdefault(chain_of(run, number), []).append(number)
    return event


def acted(net, house, row):
    """The events of a run that does a row's deeds in their order, those of coins left out."""
    found = ways_of(net, house)
    ways = [found[deed] for deed in sorted(found)]
    run = Run(net)
    leaders = {}
    events = []
    for number, times in row:
        # In the run a coin is there as soon as it can be: no event makes it.
        if ways[number][1] is not None:
            for time in range(times):
                events.append(act(run, leaders, ways[number]))
    return events


def net_toll(net, house):
    """The toll of the net's yard."""
    return toll(yard_of(net, house))


def stand_of(run):
    """What stands behind a run at each place of its net."""
    counts = {}
    for number in range(len(run.errands)):
        if is_at_place(run, number):
            chain = chain_of(run, number)
            counts[chain] = counts.get(chain, 0) + 1
    for purse in range(len(run.net[1])):
        told = purse_told(run, purse)
        counts[(purse, "shares")] = told[0]
        counts[(purse, "coins")] = told[1]
    return tuple([counts.get(place, 0) for place in places_of(run.net)])


def owed(net, house, paper, events):
    """The weights, by a paper, of what stands behind a run."""
    check_yard(net, house)
    scaled = on_one_bottom(paper[1])
    stand = stand_of(run_of(net, events))
    return lowest(sum([top * number for top, number in zip(scaled[0], stand)]), scaled[1])
