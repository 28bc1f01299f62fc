"""Nets: houses that ask houses behind them, and purses that pay for tries again."""

from tryweir.errors import NoHouse
from tryweir.words import is_word
from tryweir.yards import is_tuple_of, is_within

MOST_HOUSES = 4
MOST_PURSES = 2
MOST_ASKS = 6
MOST_ASKS_OF_ONE = 3
MOST_TRIES = 4
MOST_PER = 9


def are_named(thing, size, least, most):
    """Whether the thing is a tuple of so many tuples of this size, each with a word ahead, no two words alike."""
    if not isinstance(thing, tuple) or not least <= len(thing) <= most:
        return False
    if not all([is_tuple_of(one, size) and is_word(one[0]) for one in thing]):
        return False
    return len(set([one[0] for one in thing])) == len(thing)


def is_ask(thing, later, purses):
    """Whether the thing is an ask of a house with these houses later, where there are these purses, all by name."""
    if not is_tuple_of(thing, 6) or thing[0] not in later or not is_within(thing[1], 0, MOST_TRIES):
        return False
    if thing[2] is not None and thing[2] not in purses:
        return False
    return thing[3] in ("bad", "spent") and isinstance(thing[4], bool) and isinstance(thing[5], bool)


def are_asks(thing, later, purses):
    """Whether the thing can be the asks of a house."""
    if not isinstance(thing, tuple) or len(thing) > MOST_ASKS_OF_ONE:
        return False
    return all([is_ask(ask, later, purses) for ask in thing])


def is_net(thing):
    """Whether the thing is a net."""
    if not is_tuple_of(thing, 2):
        return False
    if not are_named(thing[0], 2, 1, MOST_HOUSES) or not are_named(thing[1], 3, 0, MOST_PURSES):
        return False
    if not all([earns in ("first", "any") and is_within(per, 1, MOST_PER) for name, earns, per in thing[1]]):
        return False
    houses = [house[0] for house in thing[0]]
    purses = [purse[0] for purse in thing[1]]
    if not all([are_asks(house[1], houses[at + 1:], purses) for at, house in enumerate(thing[0])]):
        return False
    return sum([len(house[1]) for house in thing[0]]) <= MOST_ASKS


def number_of(named, name):
    """The number of the house, or of the purse, that bears this name."""
    return [one[0] for one in named].index(name)


def asked_by(net, ask):
    """The number of the house that an ask asks."""
    return number_of(net[0], ask[0])


def check_house(net, house):
    """Refuses a number that no house has."""
    if not is_within(house, 0, len(net[0]) - 1):
        raise NoHouse("no house has this number")


def reaches(net, house, other):
    """Whether the other is the house, or is asked beneath it, however deep."""
    check_house(net, house)
    check_house(net, other)
    reached = {house: True}
    # Each ask is of a later house: so, house by house, all that can reach one are known ahead of it.
    for number in range(house, len(net[0])):
        if number in reached:
            for ask in net[0][number][1]:
                reached[asked_by(net, ask)] = True
    return other in reached


def begun_by(net, house):
    """The houses at which errands begin at once where one begins at the house, itself first."""
    check_house(net, house)
    begun = [house]
    asks = net[0][house][1]
    while len(asks) > 0:
        begun.append(asked_by(net, asks[0]))
        asks = net[0][begun[-1]][1]
    return begun
