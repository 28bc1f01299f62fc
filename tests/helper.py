"""What several tests share: things of all kinds, yards by chance that is always the same, and plain judges."""

import random
from fractions import Fraction

# Things of all kinds that are neither ratios nor yards.
STRANGE = (None, True, False, (), [], "", "A", "a b", "words", (1,), [1, 2], (None, None), ((), ()), ("1", "2"),
           (True, 1), (1, True), (False, 1), [[[]]], ((((),),),), ("a", 1), (1, "a"), (None, 1), (1, None), (1, 2, 3),
           [1, 1], (0, []), [0, ()], (0, (), ()), ("", ""), 0, 1, -1, 10 ** 70)


def nested(depth):
    """A list in a tuple in a list .., so deep."""
    thing = ()
    for level in range(depth):
        thing = [thing] if level % 2 else (thing,)
    return thing


def some_side(chance, many, least, most, greatest):
    count = min(many, chance.randint(least, most))
    return tuple((place, chance.randint(1, greatest)) for place in sorted(chance.sample(range(many), count)))


def some_yard(seed, many, count, most=2, greatest=3):
    """A yard with so many places and deeds; about a quarter of the deeds takes nothing."""
    chance = random.Random(seed)
    deeds = []
    for number in range(count):
        takes = () if chance.randint(0, 3) == 0 else some_side(chance, many, 1, most, greatest)
        deeds.append((takes, some_side(chance, many, 0, most, greatest), chance.randint(0, 9), chance.randint(0, 2)))
    return (many, tuple(deeds))


def step(yard, stand, number):
    """The stand behind one deed, or None where it can't be done."""
    takes, gives, load, pay = yard[1][number]
    behind = dict(enumerate(stand))
    for place, count in takes:
        behind[place] -= count
    if min(behind.values(), default=0) < 0:
        return None
    for place, count in gives:
        behind[place] += count
    return tuple(behind[place] for place in range(yard[0]))


def steps(yard, stand, row):
    """The stand behind a row that is gone deed by deed, or the number of the pair that stops it."""
    for at, (number, count) in enumerate(row):
        for once in range(count):
            stand = step(yard, stand, number)
            if stand is None:
                return at
    return stand


def is_plain_ratio(thing):
    if type(thing) is not tuple or [type(part) for part in thing] != [int, int] or thing[1] < 1:
        return False
    return (Fraction(*thing).numerator, Fraction(*thing).denominator) == thing


def dot(ones, others):
    return sum((Fraction(one) * other for one, other in zip(ones, others) if one and other), Fraction(0))


def sums_fault(demands, aim, told):
    """What is wrong with what least_sums told, or None."""
    if type(told) is not tuple or len(told) != {"least": 3, "never": 2}.get(told[0]):
        return "form"
    for ratios, size in zip(told[1:], (len(aim), len(demands)) if told[0] == "least" else (len(demands),)):
        if type(ratios) is not tuple or len(ratios) != size or not all(is_plain_ratio(one) for one in ratios):
            return "no tuple of ratios"
        if any(one[0] < 0 for one in ratios):
            return "below nought"
    shares = [Fraction(*one) for one in told[-1]]
    columns = [dot(shares, [numbers[unknown] for numbers, least in demands]) for unknown in range(len(aim))]
    worth = dot(shares, [least for numbers, least in demands])
    if told[0] == "never":
        return None if all(column <= 0 for column in columns) and worth > 0 else "shares show nothing"
    point = [Fraction(*one) for one in told[1]]
    if any(dot(numbers, point) < least for numbers, least in demands):
        return "a demand is not met"
    if any(column > most for column, most in zip(columns, aim)):
        return "shares above the aim"
    return None if worth == dot(aim, point) else "unlike sums"
