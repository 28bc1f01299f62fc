import random
import unittest
from fractions import Fraction

from helper import counted, behind, paper_fault, paying_yard, ring_fault, some_yard
from tryweir.rows import is_row
from tryweir.tolljudge import pays, shows
from tryweir.tolls import near, toll

GREAT = 10 ** 60 - 1


def loads(yard):
    return [deed[2] for deed in yard[1]]


def slow_chain(size, number):
    """Place by place, number of one make one of the next; what stands at the last one bears load 7 for each pay."""
    deeds = [((), ((0, 1),), 0, 1)]
    deeds += [(((place - 1, number),), ((place, 1),), 0, 0) for place in range(1, size)]
    deeds.append((((size - 1, 1),), ((size - 1, 1),), 7, 1))
    return (size, tuple(deeds))


def keeping_yard(seed, many, count, greatest):
    """A yard whose deeds give at most as many things as they take, but for one that pays."""
    chance = random.Random(seed)
    deeds = [((), ((0, chance.randint(1, 9)),), chance.randint(0, 9), 1)]
    while len(deeds) < count:
        newest = min(many, len(deeds))
        takes = tuple((place, chance.randint(1, greatest)) for place in sorted(chance.sample(range(newest), min(newest, 3))))
        left = sum(number for place, number in takes)
        gives = {newest: 1} if newest < many else {}
        for place in chance.sample(range(newest), min(newest, 3)):
            gives[place] = min(99, chance.randint(0, left))
            left -= gives[place]
        gives = tuple(sorted((place, number) for place, number in gives.items() if number))
        deeds.append((takes, gives, chance.choice((0, 0, 0, 1, 9)), chance.choice((0, 0, 0, 0, 1))))
    return (many, tuple(deeds))


class Judged(unittest.TestCase):
    def told(self, yard):
        """What toll tells, with its paper and its ring judged in both ways."""
        answer = toll(yard)
        self.assertIs(type(answer), tuple)
        ring = answer[-1]
        self.assertIsNone(ring_fault(yard, ring))
        self.assertTrue(is_row(yard, ring[0]) and is_row(yard, ring[1]))
        load, pay, change = counted(yard, ring[1])
        if answer[0] == "swells":
            self.assertEqual(len(answer), 2)
            self.assertGreater(load, 0)
            self.assertEqual(pay, 0)
            self.assertEqual(shows(yard, ring), ("swells",))
            return answer
        self.assertEqual((answer[0], len(answer)), ("toll", 3))
        self.assertIsNone(paper_fault(yard, answer[1], loads(yard)))
        self.assertIs(pays(yard, answer[1]), True)
        self.assertEqual(shows(yard, ring), ("toll", answer[1][0]))
        if answer[1][0] == (0, 1):
            self.assertEqual(ring, ([], []))
        else:
            self.assertEqual(Fraction(load, pay), Fraction(*answer[1][0]))
        return answer

    def tolled(self, yard, expected):
        self.assertEqual(self.told(yard)[1][0], expected)

    def swells(self, yard):
        self.assertEqual(self.told(yard)[0], "swells")


class Toll(Judged):
    """[5.3] and [0.4]: of every yard a paper with its ring, or a ring that swells."""

    def test_no_deeds_and_no_places(self):
        self.tolled((0, ()), (0, 1))
        self.tolled((5, ()), (0, 1))
        self.tolled((0, (((), (), 0, 0), ((), (), 0, 3))), (0, 1))
        self.tolled((0, (((), (), 3, 2), ((), (), 10, 6), ((), (), 0, 0))), (5, 3))
        self.tolled((0, (((), (), 999, 1),) * 400), (999, 1))
        self.swells((0, (((), (), 3, 2), ((), (), 1, 0))))

    def test_nought(self):
        self.tolled((1, (((), ((0, 1),), 0, 0), (((0, 1),), ((0, 9),), 0, 5))), (0, 1))
        self.tolled((2, (((), ((0, 1),), 0, 1), (((1, 1),), ((1, 1),), 9, 0))), (0, 1))
        self.tolled((1, ((((0, 1),), ((0, 2),), 9, 0),)), (0, 1))

    def test_whole(self):
        self.tolled((1, (((), ((0, 1),), 0, 1), (((0, 1),), (), 3, 0))), (3, 1))
        self.tolled((1, (((), ((0, 4),), 1, 1), (((0, 1),), (), 3, 0))), (13, 1))
        self.tolled((2, (((), ((0, 3),), 0, 1), (((0, 1),), ((1, 2),), 1, 0), (((1, 1),), (), 1, 0))), (9, 1))
        self.tolled((1, (((), ((0, 1),), 0, 1), (((0, 1),), ((0, 1),), 8, 1))), (8, 1))

    def test_broken(self):
        self.tolled((1, (((), ((0, 1),), 0, 2), (((0, 3),), (), 5, 0))), (5, 6))
        self.tolled((2, (((), ((0, 1),), 0, 1), (((0, 7),), ((1, 3),), 0, 0), (((1, 2),), (), 1, 0))), (3, 14))
        self.tolled((1, (((), ((0, 1),), 0, 1), (((0, 99),), (), 1, 0))), (1, 99))
        # Half of it comes back: so each thing counts twice.
        self.tolled((1, (((), ((0, 1),), 0, 1), (((0, 2),), ((0, 1),), 3, 0))), (3, 1))

    def test_the_best_of_several(self):
        deeds = (((), ((0, 1),), 0, 1), (((0, 1),), (), 2, 0), (((0, 2),), (), 5, 0), (((0, 3),), (), 7, 0))
        self.tolled((1, deeds), (5, 2))
        self.tolled((1, deeds + (((), (), 13, 5),)), (13, 5))

    def test_a_ring_with_a_long_cover(self):
        for size, number in ((1, 1), (2, 5), (5, 99), (60, 2), (100, 99)):
            yard = slow_chain(size, number)
            self.tolled(yard, (7, 1))
            cover, loop = toll(yard)[2]
            self.assertGreaterEqual(counted(yard, cover)[1], number ** (size - 1))

    def test_what_only_a_long_cover_lets_swell(self):
        yard = slow_chain(100, 99)
        deeds = yard[1][:-1] + ((((99, 1),), ((99, 1),), 1, 0),)
        self.swells((100, deeds))

    def test_swells(self):
        self.swells((0, (((), (), 1, 0),)))
        self.swells((1, (((), ((0, 1),), 0, 0), (((0, 1),), (), 1, 0))))
        self.swells((1, (((), ((0, 1),), 0, 1), (((0, 1),), ((0, 1),), 1, 0))))
        self.swells((2, (((), ((0, 1),), 0, 1), (((0, 1),), ((1, 2),), 0, 0), (((1, 1),), ((0, 1),), 1, 0))))
        self.swells((2, (((), ((0, 1),), 0, 1), (((0, 2),), ((1, 1),), 0, 0), (((1, 1),), ((0, 2),), 1, 0))))

    def test_just_short_of_swelling(self):
        # 99 make one, which makes 98 again: each round loses one of 99.
        yard = (2, (((), ((0, 1),), 0, 1), (((0, 99),), ((1, 1),), 0, 0), (((1, 1),), ((0, 98),), 1, 0)))
        self.tolled(yard, (1, 1))

    def test_places_that_never_come(self):
        deeds = (((), ((0, 1),), 0, 1), (((0, 1),), (), 3, 0), (((1, 1),), ((1, 2), (0, 5)), 9, 0), (((0, 1), (2, 1)), (), 9, 0))
        answer = self.told((3, deeds))
        self.assertEqual(answer[1][0], (3, 1))
        self.assertEqual(set(answer[1][2]) & {0}, set())

    def test_by_chance(self):
        words = {"nought": 0, "whole": 0, "broken": 0, "swells": 0}
        for seed in range(400):
            yard = some_yard(seed, seed % 7, 1 + seed % 9) if seed % 3 else paying_yard(seed, 2 + seed % 6, 12)
            answer = self.told(yard)
            word = answer[0]
            if word == "toll":
                word = "nought" if answer[1][0] == (0, 1) else "whole" if answer[1][0][1] == 1 else "broken"
            words[word] += 1
        self.assertGreater(min(words.values()), 25, words)

    def test_as_many_as_there_may_be(self):
        for seed in range(2):
            yards = (paying_yard(seed, 100, 400), paying_yard(seed, 100, 400, 100, 99, 5000), some_yard(seed, 100, 400, 3, 9),
                     keeping_yard(seed, 100, 400, 9), keeping_yard(seed, 100, 400, 99))
            for yard in yards:
                self.assertEqual((yard[0], len(yard[1])), (100, 400))
                self.told(yard)

    def test_the_same_question_has_the_same_answer(self):
        for yard in (slow_chain(4, 3), paying_yard(5, 6, 12), (0, ()), (0, (((), (), 1, 0),)), (5, ()),
                     (1, (((), ((0, 1),), 0, 1), (((0, 1),), ((0, 1),), 1, 0)))):
            first = toll(yard)
            kept = repr(first)
            self.assertEqual(repr(toll(yard)), kept)
            for row in first[-1]:
                row.append((0, 1))
                row[0] = None
            self.assertEqual(repr(toll(yard)), kept)
            told = near(yard, 3)
            kept = repr(told)
            for row in told[:2]:
                row.append((0, 1))
                row[0] = None
            self.assertEqual(repr(near(yard, 3)), kept)

    def test_no_list_is_told_twice(self):
        for yard in (slow_chain(4, 3), (0, ())):
            rows = [row for time in range(2) for row in toll(yard)[-1] + near(yard, 2)[:2]]
            self.assertEqual(len({id(row) for row in rows}), len(rows))


class Near(Judged):
    """[5.4]: rows that come as near as wanted."""

    def nears(self, yard, n):
        told = near(yard, n)
        self.assertEqual((type(told), len(told), type(told[2])), (tuple, 3, int))
        cover, loop, rounds = told
        self.assertIsNone(ring_fault(yard, (cover, loop)))
        self.assertGreaterEqual(rounds, 0)
        ahead, turn = counted(yard, cover), counted(yard, loop)
        load, pay = (ahead[at] + rounds * turn[at] for at in range(2))
        answer = toll(yard)
        if answer[0] == "swells":
            self.assertGreaterEqual(load, n)
            self.assertEqual(pay, ahead[1])
        else:
            self.assertGreaterEqual(n * load, (n * Fraction(*answer[1][0]) - 1) * pay)
        if rounds < 60:
            self.assertIsNotNone(behind(yard, (0,) * yard[0], cover + loop * rounds))
        return rounds

    def test_small_and_great_numbers(self):
        yards = ((0, ()), (3, ()), (0, (((), (), 3, 2),)), (1, (((), ((0, 1),), 0, 2), (((0, 3),), (), 5, 0))),
                 (1, (((), ((0, 1),), 0, 0), (((0, 1),), ((0, 9),), 0, 5))), slow_chain(1, 1), slow_chain(5, 99),
                 slow_chain(100, 99), (0, (((), (), 1, 0),)), (1, (((), ((0, 1),), 2, 1), (((0, 1),), ((0, 1),), 5, 0))))
        for yard in yards:
            for n in (1, 2, 3, 10, 12345, 10 ** 30, GREAT):
                self.nears(yard, n)

    def test_a_cover_that_costs(self):
        # All but one of the cover's pay has no load: rounds make it good.
        self.assertGreater(self.nears(slow_chain(2, 5), GREAT), GREAT)
        self.assertGreater(self.nears(slow_chain(5, 99), 1000), 99 ** 4)

    def test_a_load_of_n(self):
        self.assertGreaterEqual(self.nears((0, (((), (), 5, 0),)), 50), 10)
        self.assertGreaterEqual(self.nears((0, (((), (), 5, 0),)), 51), 11)

    def test_by_chance(self):
        for seed in range(150):
            yard = some_yard(seed, seed % 5, 6) if seed % 2 else paying_yard(seed, 3, 8)
            for n in (1, 5, 10 ** 9 + seed, GREAT - seed):
                self.nears(yard, n)

    def test_as_many_as_there_may_be(self):
        for n in (1, GREAT):
            self.nears(paying_yard(7, 100, 400), n)


if __name__ == "__main__":
    unittest.main()
