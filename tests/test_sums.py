import copy
import random
import unittest
from fractions import Fraction

from helper import dot, some_yard, sums_fault
from tryweir.sums import least_sums

GREAT = 10 ** 30


def toll_demands(yard):
    """For each deed: toll times its pay, and what it takes less what it gives in weights, is at least its load."""
    demands = []
    for takes, gives, load, pay in yard[1]:
        numbers = [pay] + [0] * yard[0]
        for place, count in takes:
            numbers[place + 1] += count
        for place, count in gives:
            numbers[place + 1] -= count
        demands.append((tuple(numbers), load))
    return demands, (1,) + (0,) * yard[0]


def some_demands(seed, unknowns, count, greatest, least):
    chance = random.Random(seed)
    demands = [(tuple(chance.randint(-greatest, greatest) for unknown in range(unknowns)), chance.randint(-least, least))
               for number in range(count)]
    return demands, tuple(chance.randint(0, greatest) for unknown in range(unknowns))


def met_demands(seed, unknowns, count, greatest, slack):
    """Demands that one point meets, most of them just where slack is 0."""
    chance = random.Random(seed)
    point = [chance.randint(0, 9) for unknown in range(unknowns)]
    demands = []
    for number in range(count):
        numbers = tuple(chance.randint(-greatest, greatest) for unknown in range(unknowns))
        reached = sum(one * other for one, other in zip(numbers, point))
        demands.append((numbers, reached - chance.randint(0, slack)))
    return demands, tuple(chance.randint(0, greatest) for unknown in range(unknowns))


def worth_of(aim, point):
    return dot(aim, [Fraction(*one) for one in point])


class LeastSums(unittest.TestCase):
    """[4.1]: least sums, or shares by which none meets all."""

    def told(self, demands, aim):
        told = least_sums(demands, aim)
        self.assertIsNone(sums_fault(demands, aim, told))
        return told

    def least(self, demands, aim):
        told = self.told(demands, aim)
        self.assertEqual(told[0], "least")
        return told

    def never(self, demands, aim):
        told = self.told(demands, aim)
        self.assertEqual(told[0], "never")
        return told

    def test_written_out(self):
        self.assertEqual(self.least([((2,), 3)], (5,)), ("least", ((3, 2),), ((5, 2),)))
        self.assertEqual(self.least([((3, 1), 7), ((1, 2), 4)], (1, 1)), ("least", ((2, 1), (1, 1)), ((1, 5), (2, 5))))
        self.assertEqual(self.never([((-1,), 1)], (1,)), ("never", ((1, 1),)))

    def test_demands_against_one_another(self):
        self.never([((1, 1), 5), ((-1, -1), -4)], (1, 1))
        self.least([((1, 1), 5), ((-1, -1), -5)], (1, 1))
        self.never([((1, -1), 1), ((-1, 1), 0)], (0, 0))
        self.never([((0, 0), 1)], (1, 1))
        self.never([((1, 0), 1), ((0, 0), 1), ((0, 1), 5)], (1, 1))
        self.never([((1, -2), 0), ((-2, 1), 0), ((1, 0), 1)], (3, 3))

    def test_no_demands(self):
        self.assertEqual(self.least([], (3, 0, 5)), ("least", ((0, 1),) * 3, ()))
        self.assertEqual(self.least((), ()), ("least", (), ()))

    def test_no_unknowns(self):
        self.assertEqual(self.least([((), 0), ((), -3)], ()), ("least", (), ((0, 1), (0, 1))))
        self.never([((), 0), ((), 1), ((), 7)], ())
        self.never([((), GREAT)], ())

    def test_demands_that_nought_meets(self):
        self.assertEqual(self.least([((-1, 2), 0), ((3, 3), -5)], (1, 1))[1], ((0, 1), (0, 1)))

    def test_an_aim_of_noughts(self):
        self.least([((1, 1), 5), ((1, -1), 3), ((-1, 2), 1)], (0, 0))
        self.never([((1, 1), 5), ((-1, -2), -4)], (0, 0))
        for seed in range(40):
            demands, aim = met_demands(seed, 4, 7, 5, 0)
            self.least(demands, (0,) * 4)

    def test_just_one_of_both_by_chance(self):
        words = {"least": 0, "never": 0}
        for seed in range(600):
            chance = random.Random(-seed)
            demands, aim = some_demands(seed, chance.randint(1, 5), chance.randint(1, 8), 4, 6)
            words[self.told(demands, aim)[0]] += 1
        self.assertGreater(min(words.values()), 100)

    def test_demands_that_can_be_met_are(self):
        for seed in range(200):
            self.least(*met_demands(seed, 1 + seed % 6, 9, 6, 4))

    def test_several_hold_just(self):
        for seed in range(100):
            self.least(*met_demands(seed, 1 + seed % 6, 14, 3, 0))
        self.least([((1, 1, 1), 0)] * 20 + [((1, 0, 0), 1), ((1, 1, 0), 1), ((1, 1, 1), 1), ((2, 1, 1), 2)] * 5, (1, 1, 1))
        self.least([((1, 1), 2)] * 400, (1, 1))

    def test_no_going_in_circles(self):
        # Where ties are broken carelessly the best next step goes round for ever here: after Beale, Kuhn, Chvatal.
        circles = (([((1, 2, 0), 3), ((-32, -48, 0), -80), ((-4, -2, 4), 2), ((36, 12, 0), -24)], (0, 0, 4), 5),
                   ([((-2, 1, 2), 2), ((-9, 3, 3), 3), ((1, -1, -1), -1), ((9, -6, -12), -12)], (0, 0, 2), 2),
                   ([((1, 1, 1), 10), ((-11, -3, 0), -57), ((-5, -1, 0), -9), ((18, 2, 0), -24)], (0, 0, 1), 1))
        for demands, aim, worth in circles:
            self.assertEqual(worth_of(aim, self.least(demands, aim)[1]), worth)

    def test_a_bent_cube(self):
        for size in range(1, 10):
            demands = []
            for row in range(size):
                numbers = [0 if at < row else 1 if at == row else 2 ** (at - row + 1) for at in range(size)]
                demands.append((tuple(numbers), 2 ** (size - 1 - row)))
            self.least(demands, tuple(5 ** (at + 1) for at in range(size)))

    def test_carrying_from_yards_to_yards(self):
        # 6 that send, 6 that need, all with the same numbers: very many answers, all bounds touch.
        demands = []
        for at in range(6):
            sends = tuple(-1 if spot // 6 == at else 0 for spot in range(36))
            needs = tuple(1 if spot % 6 == at else 0 for spot in range(36))
            demands.extend([(sends, -5), (needs, 5)])
        told = self.least(demands, tuple((spot * 7) % 11 for spot in range(36)))
        self.assertEqual(len(told[1]), 36)
        self.never(demands + [((0,) * 30 + (1,) * 6, 6)], (1,) * 36)

    def test_numbers_of_30_figures_and_more(self):
        told = self.least([((GREAT + 1,), GREAT ** 2)], (GREAT - 1,))
        self.assertEqual(told[1], ((GREAT ** 2, GREAT + 1),))
        self.never([((GREAT, -GREAT - 1), 1), ((-GREAT, GREAT + 1), 0)], (GREAT, GREAT))
        self.least([((GREAT, -GREAT - 1), 1), ((-GREAT, GREAT + 1), -1)], (GREAT, GREAT))
        for seed in range(25):
            self.least(*met_demands(seed, 5, 9, GREAT, GREAT))
            self.told(*some_demands(seed, 5, 8, GREAT, 10 ** 60 - 1))
        self.least(*met_demands(1, 15, 40, GREAT, 0))

    def test_demands_of_unlike_greatness(self):
        for seed in range(60):
            chance = random.Random(seed)
            demands, aim = met_demands(seed, 4, 9, 5, 2)
            grown = []
            for numbers, least in demands:
                factor = 10 ** chance.randint(0, 40)
                grown.append((tuple(number * factor for number in numbers), least * factor))
            expected = worth_of(aim, self.least(demands, aim)[1])
            self.assertEqual(worth_of(aim, self.least(grown, aim)[1]), expected)

    def test_of_the_form_of_yards(self):
        words = {"least": 0, "never": 0}
        for seed in range(80):
            words[self.told(*toll_demands(some_yard(seed, 8, 10)))[0]] += 1
        self.assertGreater(min(words.values()), 5)

    def test_as_many_as_there_may_be(self):
        for seed in range(3):
            chance = random.Random(seed)
            weights = [chance.randint(0, 20) for place in range(100)]
            demands = []
            while len(demands) < 400:
                numbers = [chance.choice((0, 0, 0, 1))] + [0] * 100
                for place in chance.sample(range(100), chance.randint(1, 5)):
                    numbers[place + 1] = chance.randint(-3, 3)
                room = 50 * numbers[0] + sum(one * other for one, other in zip(numbers[1:], weights))
                if room >= 0:
                    demands.append((tuple(numbers), chance.randint(0, room)))
            self.least(demands, (1,) + (0,) * 100)
            self.told(*toll_demands(some_yard(seed, 100, 400, 3, 9)))

    def test_lists_and_tuples_stay_as_they_are(self):
        for demands, aim in (some_demands(3, 4, 6, 5, 5), met_demands(4, 4, 6, 5, 5)):
            before = copy.deepcopy(demands)
            first = self.told(demands, aim)
            self.assertEqual(demands, before)
            self.assertEqual(least_sums(tuple(demands), aim), first)
            self.assertEqual(least_sums(demands, aim), first)


if __name__ == "__main__":
    unittest.main()
