"""Timed runs: runs whose events have ticks, and whose tries again wait."""

from tryweir.errors import NoEvent
from tryweir.images import owed
from tryweir.netyard import check_yard
from tryweir.runs import Run, check_event, has_tries_left, let_come, run_load, run_pay, told_of
from tryweir.strews import waits_for


def soonest_of(run, waits, pairs, number):
    """The soonest tick at which an errand that stands may try again."""
    errand = run.errands[number]
    strewing = waits[errand.house][errand.state[1]]
    # So many tries have been made of this ask: the next one is just the so-many-th try again.
    j = min(errand.state[2], len(strewing))
    return pairs[errand.stood][0] + waits_for(strewing, number, j)


def timed_run(net, waits, pairs):
    """The run that these events make at these ticks."""
    run = Run(net)
    for tick, event in pairs:
        check_event(run, event)
        if event[0] == "again" and tick < soonest_of(run, waits, pairs, event[1]):
            raise NoEvent(run.came)
        let_come(run, event)
    return run


def timed(net, waits, pairs):
    """What is told of a timed run: a pair of lists, its errands and its purses."""
    return told_of(timed_run(net, waits, pairs))


def soonest(net, waits, pairs):
    """For each errand that stands and has tries left: the errand, and the soonest tick at which it may try again."""
    run = timed_run(net, waits, pairs)
    standing = [number for number in range(len(run.errands)) if has_tries_left(run, number)]
    return [(number, soonest_of(run, waits, pairs, number)) for number in standing]


def stretch(net, waits, house, paper, pairs, low, high):
    """(load, pay, owed): of the events at ticks from low on, below high, and behind those at ticks below low."""
    check_yard(net, house)
    timed_run(net, waits, pairs)
    ahead = [event for tick, event in pairs if tick < low]
    until = [event for tick, event in pairs if tick < high]
    load = run_load(net, until, house) - run_load(net, ahead, house)
    pay = run_pay(until) - run_pay(ahead)
    return (load, pay, owed(net, house, paper, ahead))
