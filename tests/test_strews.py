import random
import time
import unittest

from helper import STRANGE, nested
from tryweir.strews import is_apart, peak, strew_load, tick_of, waits_for


def waits_by_hand(strewing, errand):
    """How long an errand waits for each try again, digit by digit."""
    found, ahead = [], 1
    for wait, width in strewing:
        errand, digit = divmod(errand, width)
        found.append(wait + ahead * digit)
        ahead *= width
    return found


def ticks_by_hand(strewing, errand):
    waits = waits_by_hand(strewing, errand)
    return [sum(waits[:j]) for j in range(1, len(waits) + 1)]


def loads_by_hand(strewing, low, high):
    loads = {}
    for errand in range(low, high):
        for tick in ticks_by_hand(strewing, errand):
            loads[tick] = loads.get(tick, 0) + 1
    return loads


def apart_by_hand(strewing):
    product = 1
    for wait, width in strewing:
        product *= width
    found = [set() for pair in strewing]
    for errand in range(product):
        for own, tick in zip(found, ticks_by_hand(strewing, errand)):
            own.add(tick)
    return all(not found[one] & found[other] for one in range(len(found)) for other in range(one))


def some_strewing(chance, most_pairs=6, most_wait=20, most_width=5):
    return tuple((chance.randint(0, most_wait), chance.randint(1, most_width)) for pair in range(chance.randint(1, most_pairs)))


class Waits(unittest.TestCase):
    """[10.1], [10.2]: waits and ticks."""

    def test_one_pair(self):
        for errand, wait in ((0, 5), (1, 6), (2, 7), (3, 5), (7, 6), (10 ** 12, 6)):
            self.assertEqual(waits_for(((5, 3),), errand, 1), wait)
            self.assertEqual(tick_of(((5, 3),), errand, 1), wait)

    def test_three_pairs(self):
        # 17 by 3 is 5, rest 2; 5 by 4 is 1, rest 1; 1 by 5 is 0, rest 1.
        strewing = ((10, 3), (20, 4), (40, 5))
        self.assertEqual([waits_for(strewing, 17, j) for j in (1, 2, 3)], [12, 23, 52])
        self.assertEqual([tick_of(strewing, 17, j) for j in (1, 2, 3)], [12, 35, 87])
        self.assertEqual([waits_for(strewing, 60, j) for j in (1, 2, 3)], [10, 20, 40])
        self.assertEqual([waits_for(strewing, 59, j) for j in (1, 2, 3)], [12, 29, 88])

    def test_widths_of_1_and_waits_of_0(self):
        for errand in (0, 1, 7, 10 ** 12):
            self.assertEqual([waits_for(((4, 1), (0, 1), (9, 1)), errand, j) for j in (1, 2, 3)], [4, 0, 9])
            self.assertEqual([tick_of(((4, 1), (0, 1), (9, 1)), errand, j) for j in (1, 2, 3)], [4, 4, 13])
        self.assertEqual([waits_for(((0, 1), (0, 3)), errand, 2) for errand in range(5)], [0, 1, 2, 0, 1])
        self.assertEqual([waits_for(((0, 3), (0, 2)), errand, 2) for errand in range(7)], [0, 0, 0, 3, 3, 3, 0])

    def test_the_greatest(self):
        strewing = ((10 ** 6, 1000),) * 6
        self.assertEqual([waits_for(strewing, 10 ** 12 - 1, j) for j in range(1, 7)],
                         [10 ** 6 + 999, 10 ** 6 + 999 * 10 ** 3, 10 ** 6 + 999 * 10 ** 6, 10 ** 6 + 999 * 10 ** 9, 10 ** 6, 10 ** 6])
        self.assertEqual(waits_for(strewing, 10 ** 12, 5), 10 ** 6 + 10 ** 12)
        self.assertEqual(tick_of(strewing, 10 ** 12, 6), 6 * 10 ** 6 + 10 ** 12)

    def test_by_chance(self):
        chance = random.Random(10)
        for count in range(1500):
            strewing = some_strewing(chance, 6, *chance.choice(((3, 3), (20, 5), (10 ** 6, 1000))))
            errand = chance.randint(0, chance.choice((9, 1000, 10 ** 12)))
            waits = [waits_for(strewing, errand, j) for j in range(1, len(strewing) + 1)]
            self.assertEqual(waits, waits_by_hand(strewing, errand))
            product = 1
            for j in range(1, len(strewing) + 1):
                product *= strewing[j - 1][1]
                self.assertEqual(tick_of(strewing, errand, j), sum(waits[:j]))
                self.assertEqual(tick_of(strewing, errand, j), sum(wait for wait, width in strewing[:j]) + errand % product)


class Loads(unittest.TestCase):
    """[10.2]: loads and peaks."""

    def test_by_hand(self):
        strewing = ((2, 3), (1, 2))
        # Errands 0 to 6 try at 2, 3, 4, 2, 3, 4, 2, and again at 3, 4, 5, 6, 7, 8, 3.
        self.assertEqual([strew_load(strewing, 0, 7, tick) for tick in range(10)], [0, 0, 3, 4, 3, 1, 1, 1, 1, 0])
        self.assertEqual(peak(strewing, 0, 7), (4, 3))
        self.assertEqual([strew_load(strewing, 4, 5, tick) for tick in range(10)], [0, 0, 0, 1, 0, 0, 0, 1, 0, 0])
        self.assertEqual(peak(strewing, 4, 5), (1, 3))

    def test_low_and_high_alike(self):
        for strewing in (((0, 1),), ((5, 3), (2, 2)), ((10 ** 6, 1000),) * 6):
            for low in (0, 1, 7, 10 ** 12):
                self.assertEqual(peak(strewing, low, low), (0, 0))
                for tick in (0, 5, 10 ** 6, 10 ** 12):
                    self.assertEqual(strew_load(strewing, low, low, tick), 0)

    def test_one_tick_for_all(self):
        self.assertEqual(peak(((0, 1),), 0, 10 ** 12), (10 ** 12, 0))
        self.assertEqual(peak(((9, 1),), 5, 10 ** 12), (10 ** 12 - 5, 9))
        self.assertEqual(peak(((9, 1), (0, 1)), 0, 10 ** 12), (2 * 10 ** 12, 9))
        self.assertEqual(strew_load(((9, 1), (0, 1)), 0, 10 ** 12, 9), 2 * 10 ** 12)
        self.assertEqual(strew_load(((9, 1), (0, 1)), 0, 10 ** 12, 8), 0)

    def test_the_least_tick_of_all(self):
        self.assertEqual(peak(((4, 5),), 0, 10), (2, 4))
        self.assertEqual(peak(((4, 5),), 3, 8), (1, 4))
        self.assertEqual(peak(((4, 5),), 3, 9), (2, 7))
        self.assertEqual(peak(((4, 5),), 4, 10), (2, 8))
        # Past the last tick the errands come to the first one.
        self.assertEqual(peak(((4, 5),), 4, 11), (2, 4))
        # The tries of unlike j make a peak in the midst of both.
        self.assertEqual(peak(((4, 5), (3, 1)), 0, 5), (2, 7))

    def test_against_a_count(self):
        chance = random.Random(102)
        for count in range(800):
            strewing = some_strewing(chance, 6, chance.choice((0, 3, 30)), chance.choice((1, 2, 4, 9)))
            low = chance.randint(0, 80)
            high = low + chance.randint(0, chance.choice((3, 20, 120)))
            loads = loads_by_hand(strewing, low, high)
            for tick in list(range(40)) + sorted(loads) + [max(loads, default=0) + 1]:
                self.assertEqual(strew_load(strewing, low, high, tick), loads.get(tick, 0))
            greatest = max(loads.values(), default=0)
            self.assertEqual(peak(strewing, low, high),
                             (greatest, min([tick for tick, load in loads.items() if load == greatest], default=0)))

    def test_great_ranges_are_answered_in_short_time(self):
        chance = random.Random(7)
        began = time.time()
        for count in range(300):
            strewing = tuple((chance.randint(0, 10 ** 6), chance.randint(1, 1000)) for pair in range(6))
            low, high = sorted(chance.randint(0, 10 ** 12) for end in range(2))
            load, tick = peak(strewing, low, high)
            self.assertEqual(strew_load(strewing, low, high, tick), load)
            for other in (0, tick - 1, tick + 1, chance.randint(0, 10 ** 6), strewing[0][0]):
                self.assertLessEqual(strew_load(strewing, low, high, other), load)
            self.assertLess(strew_load(strewing, low, high, tick - 1), load)
        self.assertLess(time.time() - began, 20)

    def test_a_great_range_as_several_small_ones(self):
        strewing = ((3, 7), (11, 2), (40, 1), (0, 1000))
        for tick in (3, 9, 14, 27, 54, 55, 1000, 13999):
            parts = [strew_load(strewing, low, low + 10 ** 11, tick) for low in range(0, 10 ** 12, 10 ** 11)]
            self.assertEqual(strew_load(strewing, 0, 10 ** 12, tick), sum(parts))

    def test_evenness(self):
        # Of one pair: errands that follow one another load no tick with more than their number by width, rounded up.
        for width in range(1, 12):
            for count in range(1, 40):
                self.assertEqual(peak(((4, width),), 5, 5 + count)[0], -(-count // width))


class Apart(unittest.TestCase):
    """[10.2]: tries with unlike j."""

    def test_one_pair(self):
        for pair in ((0, 1), (0, 1000), (10 ** 6, 1)):
            self.assertIs(is_apart((pair,)), True)

    def test_just_great_enough(self):
        for width in (1, 2, 7, 1000):
            self.assertIs(is_apart(((5, width), (width, 3))), True)
            self.assertIs(is_apart(((5, width), (width - 1, 3))), False)
        self.assertIs(is_apart(((0, 3), (3, 4), (12, 5), (60, 2), (120, 9), (1080, 1000))), True)
        for at in range(1, 6):
            strewing = [(0, 3), (3, 4), (12, 5), (60, 2), (120, 9), (1080, 1000)]
            strewing[at] = (strewing[at][0] - 1, strewing[at][1])
            self.assertIs(is_apart(tuple(strewing)), False)

    def test_widths_of_1(self):
        self.assertIs(is_apart(((0, 1), (1, 1), (1, 1))), True)
        self.assertIs(is_apart(((0, 1), (0, 1))), False)
        self.assertIs(is_apart(((0, 1), (1, 1), (0, 1))), False)

    def test_the_greatest(self):
        self.assertIs(is_apart(((10 ** 6, 1000), (10 ** 6, 1000), (10 ** 6, 1000))), True)
        self.assertIs(is_apart(((10 ** 6, 1000),) * 4), False)

    def test_of_anything(self):
        for thing in STRANGE + (nested(30), ((1,),), ((1, 2, 3),), ([1, 2],), ((-1, 2),), ((1, 0),), ((1, -2),), ((True, 1),), ((1, True),),
                                ((1, 1), None), ((1, 1), (1, "1")), [(1, 1)]):
            self.assertIs(is_apart(thing), False)
        self.assertIs(is_apart(((1, 10 ** 60),) * 1300), False)

    def test_against_a_count(self):
        chance = random.Random(103)
        found = []
        for count in range(1500):
            strewing = some_strewing(chance, 4, 30, 3)
            found.append(is_apart(strewing))
            self.assertIs(found[-1], apart_by_hand(strewing))
        self.assertGreater(min(found.count(True), found.count(False)), 200)


if __name__ == "__main__":
    unittest.main()
