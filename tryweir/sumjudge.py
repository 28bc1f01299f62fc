"""The judge of sums: whether what is told of demands and an aim holds, whoever told it."""

from tryweir.ratios import on_one_bottom


def product(ones, others):
    """The sum of all ones times their others."""
    return sum([one * other for one, other in zip(ones, others)])


def meets_all(demands, tops, bottom):
    """Whether a point, its tops over the bottom, meets all demands."""
    return all([product(numbers, tops) >= least * bottom for numbers, least in demands])


def columns_of(demands, tops, size):
    """For each unknown the sum of the shares' tops times its numbers."""
    columns = [0 for unknown in range(size)]
    for demand, top in zip(demands, tops):
        if top != 0:
            columns = [column + top * number for column, number in zip(columns, demand[0])]
    return columns


def least_holds(demands, aim, point, shares):
    """Whether a point meets all demands, and shares show that no other one has a lesser sum."""
    places = on_one_bottom(point)
    parts = on_one_bottom(shares)
    columns = columns_of(demands, parts[0], len(aim))
    if any([column > most * parts[1] for column, most in zip(columns, aim)]):
        return False
    asked = product([least for numbers, least in demands], parts[0])
    return meets_all(demands, places[0], places[1]) and asked * places[1] == product(aim, places[0]) * parts[1]


def never_holds(demands, aim, shares):
    """Whether shares show that no point meets all demands."""
    tops = on_one_bottom(shares)[0]
    if any([column > 0 for column in columns_of(demands, tops, len(aim))]):
        return False
    return product([least for numbers, least in demands], tops) > 0


def any_below(ratios):
    """Whether one of the ratios is below 0."""
    return any([one[0] < 0 for one in ratios])


def sums_hold(demands, aim, told):
    """Whether what is told, in either form of least_sums, with any ratios, holds."""
    if any([any_below(ratios) for ratios in told[1:]]):
        return False
    if told[0] == "least":
        return least_holds(demands, aim, told[1], told[2])
    return never_holds(demands, aim, told[1])
