"""What several tests share: things of all kinds, yards by chance that is always the same, and plain judges."""

import random
from fractions import Fraction

# Things of all kinds that are neither ratios nor yards.
STRANGE = (None, True, False, (), [], "", "A", "a b", "words", (1,), [1, 2], (None, None), ((), ()), ("1", "2"),
           (True, 1), (1, True), (False, 1), [[[]]], ((((),),),), ("a", 1), (1, "a"), (None, 1), (1, None), (1, 2, 3),
           [1, 1], (0, []), [0, ()], (0, (), ()), ("", ""), 0, 1, -1, 10 ** 70)

FRESH = ("fresh",)
WORKS = ("works",)


def nested(depth):
    """A list in a tuple in a list .., so deep."""
    thing = ()
    for level in range(depth):
        thing = [thing] if level % 2 else (thing,)
    return thing


def some_side(chance, many, least, most, greatest):
    count = min(many, chance.randint(least, most))
    return tuple((place, chance.randint(1, greatest)) for place in sorted(chance.sample(range(many), count)))


def some_yard(seed, many, count, most=2, greatest=3):
    """A yard with so many places and deeds; about a quarter of the deeds takes nothing."""
    chance = random.Random(seed)
    deeds = []
    for number in range(count):
        takes = () if chance.randint(0, 3) == 0 else some_side(chance, many, 1, most, greatest)
        deeds.append((takes, some_side(chance, many, 0, most, greatest), chance.randint(0, 9), chance.randint(0, 2)))
    return (many, tuple(deeds))


def step(yard, stand, number):
    """The stand behind one deed, or None where it can't be done."""
    takes, gives, load, pay = yard[1][number]
    behind = dict(enumerate(stand))
    for place, count in takes:
        behind[place] -= count
    if min(behind.values(), default=0) < 0:
        return None
    for place, count in gives:
        behind[place] += count
    return tuple(behind[place] for place in range(yard[0]))


def steps(yard, stand, row):
    """The stand behind a row that is gone deed by deed, or the number of the pair that stops it."""
    for at, (number, count) in enumerate(row):
        for once in range(count):
            stand = step(yard, stand, number)
            if stand is None:
                return at
    return stand


def is_plain_ratio(thing):
    if type(thing) is not tuple or [type(part) for part in thing] != [int, int] or thing[1] < 1:
        return False
    return (Fraction(*thing).numerator, Fraction(*thing).denominator) == thing


def dot(ones, others):
    return sum((Fraction(one) * other for one, other in zip(ones, others) if one and other), Fraction(0))


def sums_fault(demands, aim, told):
    """What is wrong with what least_sums told, or None."""
    if type(told) is not tuple or len(told) != {"least": 3, "never": 2}.get(told[0]):
        return "form"
    for ratios, size in zip(told[1:], (len(aim), len(demands)) if told[0] == "least" else (len(demands),)):
        if type(ratios) is not tuple or len(ratios) != size or not all(is_plain_ratio(one) for one in ratios):
            return "no tuple of ratios"
        if any(one[0] < 0 for one in ratios):
            return "below nought"
    shares = [Fraction(*one) for one in told[-1]]
    columns = [dot(shares, [numbers[unknown] for numbers, least in demands]) for unknown in range(len(aim))]
    worth = dot(shares, [least for numbers, least in demands])
    if told[0] == "never":
        return None if all(column <= 0 for column in columns) and worth > 0 else "shares show nothing"
    point = [Fraction(*one) for one in told[1]]
    if any(dot(numbers, point) < least for numbers, least in demands):
        return "a demand is not met"
    if any(column > most for column, most in zip(columns, aim)):
        return "shares above the aim"
    return None if worth == dot(aim, point) else "unlike sums"


def behind(yard, stand, row):
    """The stand behind a row with times of any size, or None where it can't be walked."""
    for number, count in row:
        change = moved(yard, number)
        taken = dict(yard[1][number][0])
        # What stands at a place rises or falls evenly: if the first and the last time can be done, all can.
        if any(min(now, now + (count - 1) * change[place]) < taken.get(place, 0) for place, now in enumerate(stand)):
            return None
        stand = tuple(now + count * more for now, more in zip(stand, change))
    return stand


def moved(yard, number):
    """What a deed gives less what it takes, place by place."""
    change = [0] * yard[0]
    for sign, side in ((-1, yard[1][number][0]), (1, yard[1][number][1])):
        for place, count in side:
            change[place] += sign * count
    return change


def counted(yard, row):
    """The load, the pay and the change of a row."""
    load = sum(yard[1][number][2] * count for number, count in row)
    pay = sum(yard[1][number][3] * count for number, count in row)
    changes = [(moved(yard, number), count) for number, count in row]
    return load, pay, tuple(sum(change[place] * count for change, count in changes) for place in range(yard[0]))


def ring_fault(yard, ring):
    """What keeps a told pair from being a ring, or None."""
    if type(ring) is not tuple or len(ring) != 2:
        return "no pair"
    for row in ring:
        if type(row) is not list or not all(type(pair) is tuple and len(pair) == 2 for pair in row):
            return "no row"
        if not all(type(part) is int for pair in row for part in pair) or not all(count >= 1 for number, count in row):
            return "no row"
        if not all(0 <= number < len(yard[1]) for number, count in row):
            return "no such deed"
    covered = behind(yard, (0,) * yard[0], ring[0])
    if covered is None:
        return "the cover can't be walked"
    if behind(yard, covered, ring[1]) is None:
        return "the loop can't be walked"
    return "the loop takes away" if min(counted(yard, ring[1])[2], default=0) < 0 else None


def shut_by_hand(yard, places):
    """As 3.2 says it, word by word."""
    for takes, gives, load, pay in yard[1]:
        if {place for place, number in gives} & set(places) and not {place for place, number in takes} & set(places):
            return False
    return True


def paper_fault(yard, paper, loads):
    """What keeps a paper from holding, with a load for each deed or None for those that aren't asked; or None."""
    if type(paper) is not tuple or len(paper) != 3 or not is_plain_ratio(paper[0]) or type(paper[1]) is not tuple:
        return "form"
    if len(paper[1]) != yard[0] or not all(is_plain_ratio(one) for one in paper[1]) or type(paper[2]) is not tuple:
        return "form"
    if list(paper[2]) != sorted(set(paper[2])) or not shut_by_hand(yard, paper[2]):
        return "shut is not shut"
    least = Fraction(*paper[0])
    weights = [Fraction(*one) for one in paper[1]]
    if min(weights + [least]) < 0:
        return "below nought"
    for (takes, gives, own, pay), load in zip(yard[1], loads):
        if load is None or {place for place, number in takes} & set(paper[2]):
            continue
        given = sum((weights[place] * number for place, number in gives), Fraction(load))
        if given > sum((weights[place] * number for place, number in takes), least * pay):
            return "a deed does not pay"
    return None


def paying_yard(seed, many, count, most=3, greatest=9, least=50):
    """A yard that has a toll of at most least, with most places coming; deeds are made by weights that they keep to."""
    chance = random.Random(seed)
    weights = [chance.randint(1, 30) for place in range(many)]
    deeds = []
    while len(deeds) < count:
        takes = () if chance.randint(0, 9) == 0 else some_side(chance, many, 1, most, greatest)
        gives = dict(some_side(chance, many, 1, most, greatest))
        if len(deeds) < many:
            gives[len(deeds)] = chance.randint(1, greatest)
            takes = tuple(pair for pair in takes if pair[0] < len(deeds))
        lack = sum(weights[place] * number for place, number in gives.items())
        lack -= sum(weights[place] * number for place, number in takes)
        pay = chance.randint(1, 999) if lack > 0 or chance.randint(0, 2) == 0 else 0
        if least * pay >= lack:
            deeds.append((takes, tuple(sorted(gives.items())), chance.randint(0, min(999, least * pay - lack)), pay))
    return (many, tuple(deeds))


def ask(to, tries=1, purse=None, word="bad", hears=True, sure=True):
    return (to, tries, purse, word, hears, sure)


def net_of(*asks, purses=()):
    return (tuple((name, tuple(own)) for name, own in zip("abcd", asks)), purses)


# 100 places; 101 places; 99 places and 400 deeds; 98 places and 401 deeds.
JUST = net_of((ask("b", 3, sure=False), ask("d", 3, hears=False, sure=False)), (ask("c", 3, word="spent", sure=False),),
              (ask("d", 3, word="spent", hears=False, sure=False),), ())
ABOVE = net_of((ask("b", 4, word="spent", hears=False, sure=False),), (ask("d", 2, sure=False), ask("c", 0, sure=False)),
               (ask("d", 3, word="spent", sure=False),), ())
MANY = net_of((ask("b", 2, word="spent", sure=False),), (ask("c", 0, sure=False), ask("d", word="spent", sure=False)),
              (ask("d", 4, sure=False), ask("d", 0, sure=False)), ())
MORE = net_of((ask("b", 0, sure=False),), (ask("c", 3, sure=False), ask("d", word="spent", sure=False)),
              (ask("d", 0, sure=False), ask("d", 0, word="spent", sure=False)), ())


class World:
    """A plain run: each errand lives a life of its own, which waits for what it is told next."""

    def __init__(self, net):
        self.houses, self.purses = net
        self.names = [name for name, asks in self.houses]
        self.errands = []
        self.bags = {name: [0, 0] for name, earns, per in self.purses}

    def life(self, number, asks):
        if not asks:
            return (yield WORKS)
        for at, (to, tries, purse, word, hears, sure) in enumerate(asks):
            tried = 0
            while True:
                tried += 1
                self.share(purse, tried)
                self.begin(self.names.index(to), (number, at, tried))
                heard = yield ("waits", at, tried)
                if heard == "well":
                    break
                if heard == "spent" and hears:
                    return "spent"
                if (yield ("stands", at, tried)) == "up":
                    return word
        return "well"

    def share(self, purse, tried):
        for name, earns, per in self.purses:
            if name == purse and (earns == "any" or tried == 1):
                self.bags[name][0] += 1
                if self.bags[name][0] >= per:
                    self.bags[name] = [0, self.bags[name][1] + 1]

    def begin(self, house, caller):
        errand = {"house": house, "caller": caller, "lost": False, "state": None}
        self.errands.append(errand)
        errand["life"] = self.life(len(self.errands) - 1, self.houses[house][1])
        self.tell(errand, None)

    def tell(self, errand, word):
        try:
            errand["state"] = errand["life"].send(word)
        except StopIteration as ended:
            errand["state"] = ("ended", ended.value)
            if errand["caller"] and not errand["lost"]:
                self.tell(self.errands[errand["caller"][0]], ended.value)

    def ask_of(self, errand, at):
        return self.houses[errand["house"]][1][at]

    def can(self, errand, kind):
        state = errand["state"]
        if kind == "ends":
            return state == WORKS
        if kind == "lost":
            caller = errand["caller"]
            return bool(caller) and not errand["lost"] and state[0] != "ended" and not (
                self.ask_of(self.errands[caller[0]], caller[1])[5])
        if state[0] != "stands":
            return False
        to, tries, purse, word, hears, sure = self.ask_of(errand, state[1])
        return kind == "up" or (tries == 0 or state[2] < tries) and (purse is None or self.bags[purse][1] > 0)

    def may(self):
        found = [FRESH]
        for number, errand in enumerate(self.errands):
            for event in (("ends", number, "bad"), ("ends", number, "spent"), ("ends", number, "well"), ("lost", number),
                          ("again", number), ("up", number)):
                if self.can(errand, event[0]):
                    found.append(event)
        return found

    def come(self, event):
        if event == FRESH:
            return self.begin(0, None)
        errand = self.errands[event[1]]
        if event[0] == "lost":
            errand["lost"] = True
            return self.tell(self.errands[errand["caller"][0]], "bad")
        if event[0] == "again" and self.ask_of(errand, errand["state"][1])[2]:
            self.bags[self.ask_of(errand, errand["state"][1])[2]][1] -= 1
        self.tell(errand, event[-1] if event[0] == "ends" else event[0])

    def told(self):
        errands = [(errand["house"], errand["caller"], errand["state"]) for errand in self.errands]
        return errands, [tuple(self.bags[name]) for name, earns, per in self.purses]


def some_net(seed):
    chance = random.Random(seed)
    count = chance.randint(1, 4)
    purses = tuple((name, chance.choice(("first", "any")), chance.randint(1, 3))
                   for name in ("p", "q")[:chance.randint(0, 2)])
    asks = [[] for house in range(count)]
    for time in range(chance.randint(1, 6) if count > 1 else 0):
        house = chance.randrange(count - 1)
        if len(asks[house]) < 3:
            purse = chance.choice([None] + [name for name, earns, per in purses])
            asks[house].append(ask("abcd"[chance.randrange(house + 1, count)], chance.randint(0, 4), purse,
                                   chance.choice(("bad", "spent")), chance.random() < 0.5, chance.random() < 0.5))
    return net_of(*asks, purses=purses)


def some_run(net, seed, count, fresh=0.2):
    """The events of a run by chance, and the plain run behind them."""
    chance = random.Random(seed)
    world, events = World(net), []
    for time in range(count):
        may = world.may()
        events.append(FRESH if len(may) == 1 or chance.random() < fresh else chance.choice(may[1:]))
        world.come(events[-1])
    return events, world


class Plain:
    """A net's yard as the words have it, chain by chain, without a run."""

    def __init__(self, net):
        self.houses, self.purses = net
        self.names = [name for name, asks in self.houses]
        self.chains = sorted(chain for house in self.first() for chain in self.from_(house))
        self.places = self.chains + [(purse, kind) for purse in range(len(self.purses)) for kind in ("shares", "coins")]

    def first(self):
        return {0} | {self.names.index(ask[0]) for name, asks in self.houses for ask in asks if not ask[5]}

    def from_(self, house):
        if not self.houses[house][1]:
            yield (), house
        for at, (to, tries, *rest) in enumerate(self.houses[house][1]):
            for tried in range(1, tries + 1) if tries else (1, 2):
                yield ((house, at, tried),), -1
                for steps, end in self.from_(self.names.index(to)):
                    yield ((house, at, tried), *steps), end

    def ask_of(self, step):
        return self.houses[step[0]][1][step[1]]

    def tried(self, above, house, at, tried):
        """Behind the tried-th try of an ask by an errand with these steps above: a chain, shares, houses begun."""
        to, tries, purse, *rest = self.houses[house][1][at]
        earns = [number for number, (name, earns, per) in enumerate(self.purses)
                 if name == purse and (earns == "any" or tried == 1)]
        chain, shares, begun = self.begun(above + ((house, at, tried if tries else min(tried, 2)),), self.names.index(to))
        return chain, earns + shares, begun

    def begun(self, above, house):
        if not self.houses[house][1]:
            return (above, house), [], [house]
        chain, shares, begun = self.tried(above, house, 0, 1)
        return chain, shares, [house] + begun

    def heard(self, steps, word):
        """Behind an answer that the errand of the last step hears."""
        if not steps:
            return None, [], []
        house, at, tried = steps[-1]
        if word == "well" and at + 1 < len(self.houses[house][1]):
            return self.tried(steps[:-1], house, at + 1, 1)
        if word == "well" or word == "spent" and self.ask_of(steps[-1])[4]:
            return self.heard(steps[:-1], word)
        return (steps, -1), [], []

    def events(self, chain):
        """For each event of a chain: itself, whether it takes a coin of a purse, the chains, shares and houses behind it."""
        steps, end = chain
        for above, step in enumerate(steps):
            if not self.ask_of(step)[5] and (end != -1 or above + 1 < len(steps)):
                cut = (steps[above + 1:], end)
                yield ("lost", above + 1), None, [(steps[:above + 1], -1), cut], [], []
        if end != -1:
            for word in ("bad", "spent", "well"):
                behind, shares, begun = self.heard(steps, word)
                yield ("ends", len(steps), word), None, [behind] * (behind is not None), shares, begun
            return
        house, at, tried = steps[-1]
        to, tries, purse, word, *rest = self.ask_of(steps[-1])
        if tries == 0 or tried < tries:
            behind, shares, begun = self.tried(steps[:-1], house, at, tried + 1)
            coin = [name for name, earns, per in self.purses].index(purse) if purse else None
            yield ("again", len(steps) - 1), coin, [behind], shares, begun
        behind, shares, begun = self.heard(steps[:-1], word)
        yield ("up", len(steps) - 1), None, [behind] * (behind is not None), shares, begun

    def side(self, places):
        numbers = [self.places.index(place) for place in places]
        return tuple(sorted((number, numbers.count(number)) for number in set(numbers)))

    def deed(self, measured, takes, chains, shares, begun, pay):
        gives = chains + [(purse, "shares") for purse in shares]
        return self.side(takes), self.side(gives), begun.count(measured), pay

    def yard(self, measured):
        chain, shares, begun = self.begun((), 0)
        deeds = {self.deed(measured, [], [chain], shares, begun, 1)}
        for chain in self.chains:
            for event, coin, *behind in self.events(chain):
                takes = [chain] + [(coin, "coins")] * (coin is not None)
                deeds.add(self.deed(measured, takes, *behind, 0))
        for purse, (name, earns, per) in enumerate(self.purses):
            deeds.add((((self.places.index((purse, "shares")), per),), self.side([(purse, "coins")]), 0, 0))
        return len(self.places), tuple(sorted(deeds))


def stand_behind(net, told, lost):
    """What stands behind a run, place by place: told are its errands and purses, lost the numbers of those lost."""
    errands, purses = told
    waited = {caller[:3]: number for number, (house, caller, state) in enumerate(errands) if caller}
    found = []
    for number, (house, caller, state) in enumerate(errands):
        if state[0] == "ended" or caller is not None and number not in lost:
            continue
        steps = []
        while state[0] in ("waits", "stands"):
            ever = net[0][house][1][state[1]][1] == 0
            steps.append((house, state[1], min(2, state[2]) if ever else state[2]))
            if state[0] == "stands":
                break
            number = waited[(number, state[1], state[2])]
            house, caller, state = errands[number]
        found.append((tuple(steps), house if state[0] == "works" else -1))
    for purse, (shares, coins) in enumerate(purses):
        found += [(purse, "shares")] * shares + [(purse, "coins")] * coins
    return tuple(found.count(place) for place in Plain(net).places)
