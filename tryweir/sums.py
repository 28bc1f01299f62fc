"""Least sums: the point that meets all demands with the least aim, or shares that show that none does.

That an unknown is not below 0 counts as a demand as well. A CORNER is a choice of as many demands as there are
unknowns, and the one point at which all of them hold just. Each of them has a WAY: the step by which its own sum
grows by 1 while those of the others stay. Along it the aim grows by the demand's SHARE, never below 0: so no point
that meets the chosen demands has a lesser aim than the corner's. While the corner breaks a demand, it is moved,
along the way that costs least for what it gains there, till this demand holds just, in the place of the way's own.
Where no way gains, no point meets the chosen demands and this one.
"""

from tryweir.ratios import lowest

# What stands in a line ahead of its way: the share, and the sum of the way.
AHEAD = 2


class Corner:
    """A corner; all its numbers are whole and to be read over bottom, which is above 0.

    chosen: the numbers of its demands; point: its unknowns; lines: for each chosen demand its LINE, a list of its
    share, the sum of its way, and its way.
    """

    def __init__(self, chosen, point, lines, bottom):
        self.chosen = chosen
        self.point = point
        self.lines = lines
        self.bottom = bottom


def first_corner(demand_count, aim):
    """The corner at which all unknowns are nought."""
    size = len(aim)
    lines = []
    for own in range(size):
        way = [0 for unknown in range(size)]
        way[own] = 1
        lines.append([aim[own], 1] + way)
    chosen = [demand_count + own for own in range(size)]
    return Corner(chosen, [0 for own in range(size)], lines, 1)


def all_demands(demands, size):
    """The demands, and behind them that each unknown is not below 0: a tuple (parts, least, scale) of each.

    parts are the pairs (unknown, number) with a number that isn't 0; scale is the sum of their numbers' squares.
    """
    every = []
    for numbers, least in demands:
        parts = [(unknown, number) for unknown, number in enumerate(numbers) if number != 0]
        every.append((parts, least, sum([number * number for unknown, number in parts])))
    for unknown in range(size):
        every.append(([(unknown, 1)], 0, 1))
    return every


def lack_of(demand, corner):
    """By how much, over bottom, the corner's sum is below what the demand asks for."""
    point = corner.point
    return demand[1] * corner.bottom - sum([number * point[unknown] for unknown, number in demand[0]])


def most_broken(every, corner):
    """The number of the demand that is broken farthest from where it would hold, or None where all are met."""
    # Any broken one would do. The farthest needs few moves, also where demands are of unlike greatness; lacks and
    # scales are compared as squares, as a root would not come out even.
    worst = None
    worst_lack = 0
    for number, demand in enumerate(every):
        lack = lack_of(demand, corner)
        if lack > 0 and (worst is None or lack * lack * every[worst][2] > worst_lack * worst_lack * demand[2]):
            worst = number
            worst_lack = lack
    return worst


def gains_of(corner, demand):
    """For each way of the corner, how much the demand's sum grows along it."""
    parts = demand[0]
    return [sum([number * line[AHEAD + unknown] for unknown, number in parts]) for line in corner.lines]


def is_cheaper(line, gain, other, other_gain):
    """Whether a line costs less for its gain than another one; both gains are above 0."""
    # Where the shares cost alike the sums of the ways decide, then the ways, number by number. No two ways are
    # alike in all of it, so one line is cheapest; and each move makes the corner dearer in this same order, so no
    # corner comes twice and the moves come to an end.
    for number, other_number in zip(line, other):
        difference = number * other_gain - other_number * gain
        if difference != 0:
            return difference < 0
    return False


def cheapest(lines, gains):
    """The place of the cheapest line that gains, or None where none does."""
    best = None
    for place, gain in enumerate(gains):
        if gain > 0 and (best is None or is_cheaper(lines[place], gain, lines[best], gains[best])):
            best = place
    return best


def blended(numbers, factor, others, other_factor, bottom):
    """The numbers times a factor less others times theirs, over the bottom, which divides all of it."""
    return [(factor * number - other_factor * other) // bottom for number, other in zip(numbers, others)]


def moved_corner(corner, gains, place, number, lack):
    """The corner at which the demand with this number holds just, in the place of the one chosen there."""
    # The bottom is the determinant of the chosen demands' numbers, and the gain that of the new choice: so, by
    # Cramer's rule, all new numbers over the gain are whole, and the divisions come out even.
    gain = gains[place]
    line = corner.lines[place]
    lines = [blended(other, gain, line, gains[at], corner.bottom) for at, other in enumerate(corner.lines)]
    lines[place] = line
    point = blended(corner.point, gain, line[AHEAD:], -lack, corner.bottom)
    chosen = list(corner.chosen)
    chosen[place] = number
    return Corner(chosen, point, lines, gain)


def shares_of(demand_count, chosen, tops, bottom):
    """For each demand that was handed in the ratio of its top by bottom where it is chosen, else nought."""
    shares = [(0, 1) for number in range(demand_count)]
    for number, top in zip(chosen, tops):
        if number < demand_count:
            shares[number] = lowest(top, bottom)
    return tuple(shares)


def least_told(demand_count, corner):
    """What is told where the corner meets all demands."""
    point = [lowest(top, corner.bottom) for top in corner.point]
    shares = shares_of(demand_count, corner.chosen, [line[0] for line in corner.lines], corner.bottom)
    return ("least", tuple(point), shares)


def never_told(demand_count, corner, gains, broken):
    """What is told where no way of the corner gains for the broken demand."""
    # The broken demand once, and each chosen one as often as the broken one's sum falls along its way, add up to
    # nothing at any unknown, but ask for more than nothing.
    chosen = corner.chosen + [broken]
    tops = [-gain for gain in gains] + [corner.bottom]
    return ("never", shares_of(demand_count, chosen, tops, corner.bottom))


def least_sums(demands, aim):
    """("least", x, shares) or ("never", shares): the least sum of aim times x, of the x that meet all demands."""
    every = all_demands(demands, len(aim))
    corner = first_corner(len(demands), aim)
    broken = most_broken(every, corner)
    while broken is not None:
        gains = gains_of(corner, every[broken])
        place = cheapest(corner.lines, gains)
        if place is None:
            return never_told(len(demands), corner, gains, broken)
        corner = moved_corner(corner, gains, place, broken, lack_of(every[broken], corner))
        broken = most_broken(every, corner)
    return least_told(len(demands), corner)
