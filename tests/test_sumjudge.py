import copy
import random
import unittest
from fractions import Fraction

from helper import sums_fault
from tryweir.sumjudge import sums_hold
from tryweir.sums import least_sums

GREAT = 10 ** 30


def some_demands(seed, unknowns, count, greatest):
    chance = random.Random(seed)
    demands = [(tuple(chance.randint(-greatest, greatest) for unknown in range(unknowns)),
                chance.randint(-greatest, greatest)) for number in range(count)]
    return demands, tuple(chance.randint(0, greatest) for unknown in range(unknowns))


def moved_by(one, step):
    moved = Fraction(*one) + step
    return (moved.numerator, moved.denominator)


def a_little_off(told, steps):
    """What was told, with one ratio after the other changed by each step."""
    for part in range(1, len(told)):
        for at, one in enumerate(told[part]):
            for step in steps:
                changed = told[part][:at] + (moved_by(one, step),) + told[part][at + 1:]
                yield told[:part] + (changed,) + told[part + 1:]


class SumsHold(unittest.TestCase):
    """[4.1]: the judge of sums."""

    def judged(self, demands, aim, told):
        """The judge's word, which is to be that of the plain one."""
        found = sums_hold(demands, aim, told)
        self.assertIs(found, sums_fault(demands, aim, told) is None, (demands, aim, told))
        return found

    def test_what_least_sums_tells(self):
        words = {"least": 0, "never": 0}
        for seed in range(300):
            demands, aim = some_demands(seed, seed % 6, seed % 7, 5)
            told = least_sums(demands, aim)
            words[told[0]] += 1
            self.assertIs(self.judged(demands, aim, told), True)
            self.assertIs(sums_hold(tuple(demands), aim, told), True)
        self.assertGreater(min(words.values()), 50)

    def test_a_little_off(self):
        words = {True: 0, False: 0}
        steps = (Fraction(1), Fraction(-1), Fraction(1, GREAT), Fraction(-1, GREAT))
        for seed in range(120):
            demands, aim = some_demands(seed, 1 + seed % 4, 1 + seed % 6, 5)
            for told in a_little_off(least_sums(demands, aim), steps):
                words[self.judged(demands, aim, told)] += 1
        self.assertGreater(min(words.values()), 50)

    def test_one_that_is_just_so(self):
        demands = [((3, 1), 7), ((1, 2), 4)]
        told = ("least", ((2, 1), (1, 1)), ((1, 5), (2, 5)))
        self.assertIs(self.judged(demands, (1, 1), told), True)
        for other in a_little_off(told, (Fraction(1, 10 ** 9), Fraction(-1, 10 ** 9))):
            self.assertIs(self.judged(demands, (1, 1), other), False)

    def test_a_demand_that_is_not_met(self):
        # Shares and sums are as they should be, the point alone lies wrong.
        self.assertIs(self.judged([((1, 1), 2), ((1, 0), 1)], (1, 1), ("least", ((2, 1), (0, 1)), ((1, 1), (0, 1)))), True)
        self.assertIs(self.judged([((1, 1), 2), ((1, 0), 1)], (1, 1), ("least", ((0, 1), (2, 1)), ((1, 1), (0, 1)))), False)
        self.assertIs(self.judged([((1, 1), 2), ((1, 0), 1)], (1, 1), ("least", ((999, 1000), (1001, 1000)),
                                                                        ((1, 1), (0, 1)))), False)

    def test_a_ratio_below_nought(self):
        # All sums are as they should be here.
        self.assertIs(self.judged([((1, -1), 1)], (0, 0), ("least", ((0, 1), (-1, 1)), ((0, 1),))), False)
        self.assertIs(self.judged([((1,), 1), ((-1,), -1)], (1,), ("least", ((1, 1),), ((1, 2), (-1, 2)))), False)
        self.assertIs(self.judged([((1,), 1)], (2,), ("least", ((1, 1),), ((2, 1),))), True)
        self.assertIs(self.judged([((1,), 0), ((1,), -1)], (0,), ("never", ((1, 1), (-1, 1)))), False)

    def test_shares_above_the_aim(self):
        self.assertIs(self.judged([((1, 1), 1)], (1, 0), ("least", ((1, 1), (0, 1)), ((1, 1),))), False)
        self.assertIs(self.judged([((1, 1), 1)], (1, 0), ("least", ((0, 1), (1, 1)), ((0, 1),))), True)

    def test_sums_of_least_that_are_not_the_same(self):
        self.assertIs(self.judged([((1,), 1)], (1,), ("least", ((2, 1),), ((1, 1),))), False)
        self.assertIs(self.judged([((1,), 1)], (1,), ("least", ((1, 1),), ((1, 2),))), False)
        self.assertIs(self.judged([((1,), 1)], (1,), ("least", ((1, 1),), ((1, 1),))), True)

    def test_never(self):
        demands = [((1, 1), 3), ((-1, -1), -2), ((-1, -1), -3)]
        for shares, holds in ((((1, 1), (1, 1), (0, 1)), True), (((7, 3), (7, 3), (0, 1)), True),
                              (((1, 1), (0, 1), (1, 1)), False), (((0, 1), (0, 1), (0, 1)), False),
                              (((1, 1), (0, 1), (0, 1)), False), (((1, 1), (3, 2), (0, 1)), False),
                              (((1, 1), (4, 3), (0, 1)), True), (((3, 2), (1, 1), (0, 1)), False),
                              (((1, 1), (1, 2), (1, 2)), True), (((1, 1), (GREAT, GREAT + 1), (0, 1)), False)):
            self.assertIs(self.judged(demands, (4, 4), ("never", shares)), holds, shares)

    def test_never_of_demands_that_can_be_met(self):
        self.assertIs(self.judged([((1,), 1)], (1,), ("never", ((1, 1),))), False)
        self.assertIs(self.judged([((-1,), 0)], (1,), ("never", ((1, 1),))), False)

    def test_no_demands_and_no_unknowns(self):
        self.assertIs(self.judged([], (), ("least", (), ())), True)
        self.assertIs(self.judged([], (), ("never", ())), False)
        self.assertIs(self.judged([], (2, 0), ("least", ((0, 1), (5, 2)), ())), True)
        self.assertIs(self.judged([], (2, 0), ("least", ((1, GREAT), (0, 1)), ())), False)
        self.assertIs(self.judged([], (2, 0), ("never", ())), False)
        self.assertIs(self.judged([((), 0), ((), -1)], (), ("least", (), ((5, 3), (0, 1)))), True)
        self.assertIs(self.judged([((), 0), ((), -1)], (), ("least", (), ((5, 3), (1, 3)))), False)
        self.assertIs(self.judged([((), 1)], (), ("least", (), ((0, 1),))), False)
        self.assertIs(self.judged([((), 1)], (), ("never", ((1, GREAT),))), True)
        self.assertIs(self.judged([((), 0)], (), ("never", ((1, 1),))), False)

    def test_numbers_of_30_figures(self):
        steps = (Fraction(1, 10 ** 200), Fraction(-1, 10 ** 200))
        words = {"least": 0, "never": 0}
        for seed in range(30):
            demands, aim = some_demands(seed, 4, 6, GREAT)
            told = least_sums(demands, aim)
            words[told[0]] += 1
            self.assertIs(self.judged(demands, aim, told), True)
            for other in a_little_off(told, steps):
                self.judged(demands, aim, other)
        self.assertGreater(min(words.values()), 3)

    def test_any_ratios(self):
        chance = random.Random(5)
        for seed in range(100):
            demands, aim = some_demands(seed, 3, 4, 3)
            ratios = []
            for at in range(11):
                one = Fraction(chance.randint(-10, 10 ** 60), chance.randint(1, 10 ** 60))
                ratios.append((one.numerator, one.denominator))
            self.judged(demands, aim, ("least", tuple(ratios[:3]), tuple(ratios[3:7])))
            self.judged(demands, aim, ("never", tuple(ratios[7:])))

    def test_at_full_size(self):
        chance = random.Random(9)
        demands, aim = some_demands(2, 101, 400, GREAT)
        bottoms = [chance.randint(1, 10 ** 60) for number in range(501)]
        ratios = [Fraction(chance.randint(0, 10 ** 60), bottom) for bottom in bottoms]
        ratios = tuple((one.numerator, one.denominator) for one in ratios)
        self.assertIs(sums_hold(demands, aim, ("least", ratios[:101], ratios[101:])), False)
        self.assertIs(sums_hold(demands, aim, ("never", ratios[101:])), False)
        point = tuple((1, bottom) for bottom in bottoms[:101])
        kept = [(tuple(-abs(number) for number in numbers), -101 * GREAT) for numbers, least in demands]
        self.assertIs(sums_hold(kept, (0,) * 101, ("least", point, ((0, 1),) * 400)), True)

    def test_nothing_handed_in_is_changed(self):
        demands, aim = some_demands(3, 4, 6, 5)
        told = least_sums(demands, aim)
        before = copy.deepcopy((demands, aim, told))
        for time in range(2):
            self.assertIs(sums_hold(demands, aim, told), True)
            self.assertEqual((demands, aim, told), before)


if __name__ == "__main__":
    unittest.main()
