"""What several tests share: things of all kinds, yards by chance that is always the same, and plain judges."""

import random
from fractions import Fraction

# Things of all kinds that are neither ratios nor yards.
STRANGE = (None, True, False, (), [], "", "A", "a b", "words", (1,), [1, 2], (None, None), ((), ()), ("1", "2"),
           (True, 1), (1, True), (False, 1), [[[]]], ((((),),),), ("a", 1), (1, "a"), (None, 1), (1, None), (1, 2, 3),
           [1, 1], (0, []), [0, ()], (0, (), ()), ("", ""), 0, 1, -1, 10 ** 70)


def nested(depth):
    """A list in a tuple in a list .., so deep."""
    thing = ()
    for level in range(depth):
        thing = [thing] if level % 2 else (thing,)
    return thing


def some_side(chance, many, least, most, greatest):
    count = min(many, chance.randint(least, most))
    return tuple((place, chance.randint(1, greatest)) for place in sorted(chance.sample(range(many), count)))


def some_yard(seed, many, count, most=2, greatest=3):
    """A yard with so many places and deeds; about a quarter of the deeds takes nothing."""
    chance = random.Random(seed)
    deeds = []
    for number in range(count):
        takes = () if chance.randint(0, 3) == 0 else some_side(chance, many, 1, most, greatest)
        deeds.append((takes, some_side(chance, many, 0, most, greatest), chance.randint(0, 9), chance.randint(0, 2)))
    return (many, tuple(deeds))


def step(yard, stand, number):
    """The stand behind one deed, or None where it can't be done."""
    takes, gives, load, pay = yard[1][number]
    behind = dict(enumerate(stand))
    for place, count in takes:
        behind[place] -= count
    if min(behind.values(), default=0) < 0:
        return None
    for place, count in gives:
        behind[place] += count
    return tuple(behind[place] for place in range(yard[0]))


def steps(yard, stand, row):
    """The stand behind a row that is gone deed by deed, or the number of the pair that stops it."""
    for at, (number, count) in enumerate(row):
        for once in range(count):
            stand = step(yard, stand, number)
            if stand is None:
                return at
    return stand


def is_plain_ratio(thing):
    if type(thing) is not tuple or [type(part) for part in thing] != [int, int] or thing[1] < 1:
        return False
    return (Fraction(*thing).numerator, Fraction(*thing).denominator) == thing


def dot(ones, others):
    return sum((Fraction(one) * other for one, other in zip(ones, others) if one and other), Fraction(0))


def sums_fault(demands, aim, told):
    """What is wrong with what least_sums told, or None."""
    if type(told) is not tuple or len(told) != {"least": 3, "never": 2}.get(told[0]):
        return "form"
    for ratios, size in zip(told[1:], (len(aim), len(demands)) if told[0] == "least" else (len(demands),)):
        if type(ratios) is not tuple or len(ratios) != size or not all(is_plain_ratio(one) for one in ratios):
            return "no tuple of ratios"
        if any(one[0] < 0 for one in ratios):
            return "below nought"
    shares = [Fraction(*one) for one in told[-1]]
    columns = [dot(shares, [numbers[unknown] for numbers, least in demands]) for unknown in range(len(aim))]
    worth = dot(shares, [least for numbers, least in demands])
    if told[0] == "never":
        return None if all(column <= 0 for column in columns) and worth > 0 else "shares show nothing"
    point = [Fraction(*one) for one in told[1]]
    if any(dot(numbers, point) < least for numbers, least in demands):
        return "a demand is not met"
    if any(column > most for column, most in zip(columns, aim)):
        return "shares above the aim"
    return None if worth == dot(aim, point) else "unlike sums"


def behind(yard, stand, row):
    """The stand behind a row with times of any size, or None where it can't be walked."""
    for number, count in row:
        change = moved(yard, number)
        taken = dict(yard[1][number][0])
        # What stands at a place rises or falls evenly: if the first and the last time can be done, all can.
        if any(min(now, now + (count - 1) * change[place]) < taken.get(place, 0) for place, now in enumerate(stand)):
            return None
        stand = tuple(now + count * more for now, more in zip(stand, change))
    return stand


def moved(yard, number):
    """What a deed gives less what it takes, place by place."""
    change = [0] * yard[0]
    for sign, side in ((-1, yard[1][number][0]), (1, yard[1][number][1])):
        for place, count in side:
            change[place] += sign * count
    return change


def counted(yard, row):
    """The load, the pay and the change of a row."""
    load = sum(yard[1][number][2] * count for number, count in row)
    pay = sum(yard[1][number][3] * count for number, count in row)
    changes = [(moved(yard, number), count) for number, count in row]
    return load, pay, tuple(sum(change[place] * count for change, count in changes) for place in range(yard[0]))


def ring_fault(yard, ring):
    """What keeps a told pair from being a ring, or None."""
    if type(ring) is not tuple or len(ring) != 2:
        return "no pair"
    for row in ring:
        if type(row) is not list or not all(type(pair) is tuple and len(pair) == 2 for pair in row):
            return "no row"
        if not all(type(part) is int for pair in row for part in pair) or not all(count >= 1 for number, count in row):
            return "no row"
        if not all(0 <= number < len(yard[1]) for number, count in row):
            return "no such deed"
    covered = behind(yard, (0,) * yard[0], ring[0])
    if covered is None:
        return "the cover can't be walked"
    if behind(yard, covered, ring[1]) is None:
        return "the loop can't be walked"
    return "the loop takes away" if min(counted(yard, ring[1])[2], default=0) < 0 else None


def shut_by_hand(yard, places):
    """As 3.2 says it, word by word."""
    for takes, gives, load, pay in yard[1]:
        if {place for place, number in gives} & set(places) and not {place for place, number in takes} & set(places):
            return False
    return True


def paper_fault(yard, paper, loads):
    """What keeps a paper from holding, with a load for each deed or None for those that aren't asked; or None."""
    if type(paper) is not tuple or len(paper) != 3 or not is_plain_ratio(paper[0]) or type(paper[1]) is not tuple:
        return "form"
    if len(paper[1]) != yard[0] or not all(is_plain_ratio(one) for one in paper[1]) or type(paper[2]) is not tuple:
        return "form"
    if list(paper[2]) != sorted(set(paper[2])) or not shut_by_hand(yard, paper[2]):
        return "shut is not shut"
    least = Fraction(*paper[0])
    weights = [Fraction(*one) for one in paper[1]]
    if min(weights + [least]) < 0:
        return "below nought"
    for (takes, gives, own, pay), load in zip(yard[1], loads):
        if load is None or {place for place, number in takes} & set(paper[2]):
            continue
        given = sum((weights[place] * number for place, number in gives), Fraction(load))
        if given > sum((weights[place] * number for place, number in takes), least * pay):
            return "a deed does not pay"
    return None


def paying_yard(seed, many, count, most=3, greatest=9, least=50):
    """A yard that has a toll of at most least, with most places coming; deeds are made by weights that they keep to."""
    chance = random.Random(seed)
    weights = [chance.randint(1, 30) for place in range(many)]
    deeds = []
    while len(deeds) < count:
        takes = () if chance.randint(0, 9) == 0 else some_side(chance, many, 1, most, greatest)
        gives = dict(some_side(chance, many, 1, most, greatest))
        if len(deeds) < many:
            gives[len(deeds)] = chance.randint(1, greatest)
            takes = tuple(pair for pair in takes if pair[0] < len(deeds))
        lack = sum(weights[place] * number for place, number in gives.items())
        lack -= sum(weights[place] * number for place, number in takes)
        pay = chance.randint(1, 999) if lack > 0 or chance.randint(0, 2) == 0 else 0
        if least * pay >= lack:
            deeds.append((takes, tuple(sorted(gives.items())), chance.randint(0, min(999, least * pay - lack)), pay))
    return (many, tuple(deeds))
