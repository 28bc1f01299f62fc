"""Runs: what goes on in a net, event by event."""

from tryweir.errors import NoEvent
from tryweir.nets import asked_by, check_house, number_of
from tryweir.yards import is_within

FRESH = ("fresh",)


class Errand:
    """An errand: its house, its caller and its state, as they are told, and whether its answer was lost.

    And the errand that its last try began, and the number of the event with which it last came to stand.
    """

    def __init__(self, house, caller):
        self.house = house
        self.caller = caller
        self.state = ("works",)
        self.is_lost = False
        self.asked = None
        self.stood = None


class Run:
    """A run of a net as far as it has gone: how many events came, its errands, and what its purses got and gave.

    Puts holds for each purse, for each share that was put into it, the errand that the share's try began; payments
    a tuple (errand, purse, coin) for each coin that was taken; taken for each purse how many coins were.
    """

    def __init__(self, net):
        self.net = net
        self.came = 0
        self.errands = []
        self.puts = [[] for purse in net[1]]
        self.payments = []
        self.taken = [0 for purse in net[1]]


def asks_of(run, number):
    """The asks of the house at which an errand is."""
    return run.net[0][run.errands[number].house][1]


def purse_of(run, ask):
    """The number of an ask's purse, or None."""
    return None if ask[2] is None else number_of(run.net[1], ask[2])


def coins_made(run, purse):
    """How many coins have come in a purse."""
    return len(run.puts[purse]) // run.net[1][purse][2]


def purse_told(run, purse):
    """The shares and the coins that a purse has."""
    return (len(run.puts[purse]) % run.net[1][purse][2], coins_made(run, purse) - run.taken[purse])


def take_coin(run, purse):
    """The try that begins next takes its coin."""
    run.payments.append((len(run.errands), purse, run.taken[purse]))
    run.taken[purse] += 1


def begin_try(run, number, at, tried):
    """An errand makes a try of one of its asks, the first one or a later one."""
    ask = asks_of(run, number)[at]
    begun = len(run.errands)
    run.errands[number].state = ("waits", at, tried)
    run.errands[number].asked = begun
    purse = purse_of(run, ask)
    if purse is not None and (tried == 1 or run.net[1][purse][1] == "any"):
        run.puts[purse].append(begun)
    begin_errand(run, asked_by(run.net, ask), (number, at, tried))


def begin_errand(run, house, caller):
    """An errand begins at a house, and with it what it begins at once."""
    run.errands.append(Errand(house, caller))
    number = len(run.errands) - 1
    if len(asks_of(run, number)) > 0:
        begin_try(run, number, 0, 1)


def end_errand(run, number, word):
    """An errand ends with a word, which its caller hears unless it was lost."""
    errand = run.errands[number]
    errand.state = ("ended", word)
    if errand.caller is not None and not errand.is_lost:
        hear(run, errand.caller, word)


def hear(run, caller, word):
    """A caller hears how its try came out."""
    number = caller[0]
    at = caller[1]
    asks = asks_of(run, number)
    if word == "well" and at + 1 < len(asks):
        begin_try(run, number, at + 1, 1)
    elif word == "well" or (word == "spent" and asks[at][4]):
        end_errand(run, number, word)
    else:
        run.errands[number].state = ("stands", at, caller[2])
        run.errands[number].stood = run.came


def may_be_lost(run, number):
    """Whether the answer of an errand can be lost."""
    errand = run.errands[number]
    if errand.caller is None or errand.is_lost or errand.state[0] == "ended":
        return False
    return not asks_of(run, errand.caller[0])[errand.caller[1]][5]


def has_tries_left(run, number):
    """Whether an errand stands and has made fewer tries than its ask lets it."""
    state = run.errands[number].state
    if state[0] != "stands":
        return False
    tries = asks_of(run, number)[state[1]][1]
    return tries == 0 or state[2] < tries


def has_coin(run, number):
    """Whether an errand that stands finds a coin for its try again, or needs none."""
    purse = purse_of(run, asks_of(run, number)[run.errands[number].state[1]])
    return purse is None or purse_told(run, purse)[1] > 0


def events_by_tries(run, number):
    """All events that can come to an errand, coins aside, in the order in which they are told."""
    word = run.errands[number].state[0]
    events = []
    if word == "works":
        events.extend([("ends", number, "bad"), ("ends", number, "spent"), ("ends", number, "well")])
    if may_be_lost(run, number):
        events.append(("lost", number))
    if has_tries_left(run, number):
        events.append(("again", number))
    if word == "stands":
        events.append(("up", number))
    return events


def events_at(run, number):
    """All events that can come to an errand, in the order in which they are told."""
    return [event for event in events_by_tries(run, number) if event[0] != "again" or has_coin(run, number)]


def can_come(run, event):
    """Whether the event, whatever it is, can come next."""
    if event == FRESH:
        return True
    if not isinstance(event, tuple) or len(event) < 2 or not is_within(event[1], 0, len(run.errands) - 1):
        return False
    return event in events_at(run, event[1])


def lose(run, number):
    """The answer of an errand is lost: to its caller it came out badly, and it goes on by itself."""
    errand = run.errands[number]
    errand.is_lost = True
    hear(run, errand.caller, "bad")


def try_again(run, number):
    """An errand that stands tries again."""
    state = run.errands[number].state
    purse = purse_of(run, asks_of(run, number)[state[1]])
    if purse is not None:
        take_coin(run, purse)
    begin_try(run, number, state[1], state[2] + 1)


def go_up(run, number):
    """An errand that stands ends with the word of its ask."""
    end_errand(run, number, asks_of(run, number)[run.errands[number].state[1]][3])


def let_come(run, event):
    """An event that can come does."""
    if event[0] == "fresh":
        begin_errand(run, 0, None)
    elif event[0] == "ends":
        end_errand(run, event[1], event[2])
    elif event[0] == "lost":
        lose(run, event[1])
    elif event[0] == "again":
        try_again(run, event[1])
    else:
        go_up(run, event[1])
    run.came += 1


def check_event(run, event):
    """Refuses an event that can't come next, whatever it is."""
    if not can_come(run, event):
        raise NoEvent(run.came)


def run_of(net, events):
    """The run that these events make."""
    run = Run(net)
    for event in events:
        check_event(run, event)
        let_come(run, event)
    return run


def told_of(run):
    """A pair of lists: the errands (house, caller, state), and the purses (shares, coins)."""
    errands = [(errand.house, errand.caller, errand.state) for errand in run.errands]
    return (errands, [purse_told(run, purse) for purse in range(len(run.net[1]))])


def ran(net, events):
    """What is told of the run that these events make."""
    return told_of(run_of(net, events))


def run_load(net, events, house):
    """How many errands began at the house."""
    check_house(net, house)
    return len([errand for errand in run_of(net, events).errands if errand.house == house])


def run_pay(events):
    """How many fresh errands came."""
    return len([event for event in events if event == FRESH])


def may_come(net, events):
    """All events that can come next."""
    run = run_of(net, events)
    told = [FRESH]
    for number in range(len(run.errands)):
        told.extend(events_at(run, number))
    return told
