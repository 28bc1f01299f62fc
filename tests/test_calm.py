import random
import unittest
from fractions import Fraction

from helper import counted, paper_fault, paying_yard, ring_fault, some_yard
from tryweir.calm import calm, calms, crowd, crowds
from tryweir.coming import comes

GREAT = 10 ** 60
NOUGHT = (0, 1)


def pair(one):
    return (Fraction(one).numerator, Fraction(one).denominator)


def calm_fault(yard, paper):
    """As 6.1 says it: own deeds have a load of 1, and nothing is paid."""
    if type(paper) is not tuple or len(paper) != 2:
        return "form"
    return paper_fault(yard, (NOUGHT,) + paper, [1 if deed[3] == 0 else None for deed in yard[1]])


def crowd_fault(yard, place, paper):
    """As 6.2 says it."""
    fault = paper_fault(yard, paper, [0 for deed in yard[1]])
    if fault is None and place not in paper[2] and Fraction(*paper[1][place]) < 1:
        return "too light"
    return fault


def some_ratio(chance, greatest):
    return pair(Fraction(chance.randint(-1, greatest), chance.randint(1, greatest)))


def some_shut(chance, yard):
    others = tuple(place for place in range(yard[0]) if place not in comes(yard)[0])
    return chance.choice((others, others, (), (0,), (1, 2)))


class Calm(unittest.TestCase):
    """[6.1]: whether own deeds come to an end."""

    def told(self, yard):
        answer = calm(yard)
        self.assertEqual((type(answer), len(answer)), (tuple, 2))
        if answer[0] == "calm":
            self.assertIsNone(calm_fault(yard, answer[1]))
            self.assertIs(calms(yard, answer[1]), True)
        else:
            self.assertEqual(answer[0], "rings")
            self.assertIsNone(ring_fault(yard, answer[1]))
            self.assertGreater(len(answer[1][1]), 0)
            self.assertTrue(all(yard[1][number][3] == 0 for number, count in answer[1][1]))
        return answer

    def word(self, yard, expected):
        self.assertEqual(self.told(yard)[0], expected, yard)

    def test_no_deeds_and_no_own_deeds(self):
        for yard in ((0, ()), (4, ()), (0, (((), (), 9, 1),)), (1, (((), ((0, 5),), 0, 1), (((0, 1),), ((0, 9),), 3, 2)))):
            self.word(yard, "calm")

    def test_own_deeds_that_take_nothing(self):
        self.word((0, (((), (), 0, 0),)), "rings")
        self.word((1, (((), ((0, 1),), 0, 0),)), "rings")
        self.word((1, (((), (), 0, 1), ((), (), 5, 0))), "rings")

    def test_the_load_is_all_one(self):
        for load in (0, 1, 999):
            self.word((1, (((), ((0, 1),), load, 1), (((0, 1),), ((0, 1),), load, 0))), "rings")
            self.word((1, (((), ((0, 1),), load, 1), (((0, 2),), ((0, 1),), load, 0))), "calm")
            self.word((1, (((), ((0, 1),), load, 1), (((0, 2),), ((0, 2),), load, 1))), "calm")

    def test_rounds_that_lose_and_gain(self):
        fresh = ((), ((0, 1),), 0, 1)
        for gives, word in ((98, "calm"), (99, "rings")):
            self.word((2, (fresh, (((0, 99),), ((1, 1),), 0, 0), (((1, 1),), ((0, gives),), 0, 0))), word)

    def test_deeds_and_places_that_do_not_come(self):
        self.word((1, ((((0, 1),), ((0, 2),), 1, 0),)), "calm")
        self.word((2, (((), ((0, 1),), 0, 1), (((0, 1), (1, 1)), ((0, 2), (1, 2)), 1, 0), (((0, 3),), ((0, 2),), 0, 0))), "calm")
        self.assertEqual(self.told((2, (((), ((0, 1),), 0, 1), (((1, 1),), ((1, 1),), 0, 0))))[1][1], (1,))

    def test_by_chance(self):
        words = {"calm": 0, "rings": 0}
        for seed in range(300):
            yard = some_yard(seed, seed % 7, 1 + seed % 9) if seed % 3 else paying_yard(seed, 2 + seed % 6, 12)
            words[self.told(yard)[0]] += 1
        self.assertGreater(min(words.values()), 50)

    def test_own_deeds_are_at_most_the_weights_of_the_stand(self):
        chance = random.Random(1)
        for seed in range(40):
            yard = paying_yard(seed, 4, 12)
            own = [number for number, deed in enumerate(yard[1]) if deed[3] == 0]
            weights = [Fraction(*one) for one in self.told(yard)[1][0]]
            stand = [chance.randint(0, 9) if place in comes(yard)[0] else 0 for place in range(4)]
            most = sum(weight * now for weight, now in zip(weights, stand))
            done = 0
            while True:
                able = [number for number in own if all(stand[place] >= count for place, count in yard[1][number][0])]
                if not able:
                    break
                done += 1
                self.assertLessEqual(done, most)
                for sign, side in ((-1, 0), (1, 1)):
                    for place, count in yard[1][able[0]][side]:
                        stand[place] += sign * count

    def test_as_many_as_there_may_be(self):
        self.told(paying_yard(1, 100, 400))
        self.told(some_yard(1, 100, 400, 3, 9))

    def test_each_list_told_is_a_new_one(self):
        for yard in ((0, (((), (), 0, 0),)), (1, (((), ((0, 1),), 0, 1), (((0, 1),), ((0, 1),), 0, 0)))):
            first = calm(yard)
            kept = repr(first)
            for row in first[1]:
                row.append((0, 1))
                row[0] = None
            self.assertEqual(repr(calm(yard)), kept)
        yard = paying_yard(4, 4, 12)
        self.assertEqual(calm(yard), calm(yard))


class Calms(unittest.TestCase):
    """[6.1]: whether a calm paper holds."""

    YARD = (3, (((), ((0, 1),), 0, 1), (((0, 3),), ((1, 2),), 5, 0), (((1, 1),), (), 0, 0), (((2, 1),), ((2, 1), (1, 1)), 0, 0)))

    def judged(self, yard, paper):
        found = calms(yard, paper)
        self.assertIs(found, calm_fault(yard, paper) is None, (yard, paper))
        return found

    def test_just_so_and_a_little_off(self):
        for weights, holds in ((((1, 1), (1, 1), NOUGHT), True), (((2, 1), (5, 2), (7, 9)), True),
                               (((GREAT - 1, GREAT), (1, 1), NOUGHT), False), (((1, 1), (GREAT - 1, GREAT), NOUGHT), False),
                               (((1, 1), (GREAT + 1, GREAT), NOUGHT), False), ((NOUGHT, NOUGHT, NOUGHT), False),
                               (((GREAT, 1), (GREAT, 1), NOUGHT), True), (((3 * GREAT + 2, 3 * GREAT), (1, 1), NOUGHT), True)):
            self.assertIs(self.judged(self.YARD, (tuple(pair(Fraction(*one)) for one in weights), (2,))), holds, weights)

    def test_a_ratio_below_nought(self):
        self.assertIs(self.judged(self.YARD, (((1, 1), (1, 1), (-1, GREAT)), (2,))), False)
        self.assertIs(self.judged((1, ()), (((-1, 1),), ())), False)
        self.assertIs(self.judged((1, ()), ((NOUGHT,), ())), True)
        # What this one gives weighs by 1 less than nothing.
        self.assertIs(self.judged((1, (((), ((0, 1),), 0, 0),)), (((-1, 1),), ())), False)

    def test_shut(self):
        weights = ((1, 1), (1, 1), NOUGHT)
        for shut, holds in (((2,), True), ((), False), ((0,), False), ((0, 2), False), ((1, 2), False), ((0, 1, 2), False)):
            self.assertIs(self.judged(self.YARD, (weights, shut)), holds, shut)
        yard = (2, ((((0, 1),), ((1, 1),), 0, 0),))
        for shut, holds in (((), False), ((0,), True), ((1,), False), ((0, 1), True)):
            self.assertIs(self.judged(yard, ((NOUGHT, NOUGHT), shut)), holds)

    def test_deeds_that_pay_need_not_fall(self):
        self.assertIs(self.judged((1, (((), ((0, 99),), 9, 1),)), ((NOUGHT,), ())), True)
        self.assertIs(self.judged((1, (((), ((0, 99),), 9, 1),)), (((GREAT, 1),), ())), True)
        self.assertIs(self.judged((1, (((), ((0, 99),), 9, 0),)), (((GREAT, 1),), ())), False)

    def test_no_places(self):
        self.assertIs(self.judged((0, ()), ((), ())), True)
        self.assertIs(self.judged((0, (((), (), 9, 1),)), ((), ())), True)
        self.assertIs(self.judged((0, (((), (), 0, 0),)), ((), ())), False)

    def test_by_chance(self):
        words = {True: 0, False: 0}
        chance = random.Random(2)
        for seed in range(800):
            yard = some_yard(seed, 3, 3)
            weights = tuple(some_ratio(chance, 9) for place in range(3))
            words[self.judged(yard, (weights, some_shut(chance, yard)))] += 1
        self.assertGreater(min(words.values()), 50)


class Crowd(unittest.TestCase):
    """[6.2]: how many can stand at a place."""

    def told(self, yard, place):
        answer = crowd(yard, place)
        ring = answer[-1]
        self.assertIs(type(answer), tuple)
        self.assertIsNone(ring_fault(yard, ring))
        load, pay, change = counted(yard, ring[1])
        if answer[0] == "swells":
            self.assertEqual(len(answer), 2)
            self.assertEqual(pay, 0)
            self.assertGreater(change[place], 0)
            return "swells"
        self.assertEqual((answer[0], len(answer)), ("crowd", 3))
        self.assertIsNone(crowd_fault(yard, place, answer[1]))
        self.assertIs(crowds(yard, place, answer[1]), True)
        if answer[1][0] == NOUGHT:
            self.assertEqual(ring, ([], []))
        else:
            self.assertGreater(pay, 0)
            self.assertEqual(change[place], Fraction(*answer[1][0]) * pay)
        return answer[1][0]

    def all_told(self, yard):
        return [self.told(yard, place) for place in range(yard[0])]

    def test_written_out(self):
        fresh = ((), ((0, 1),), 0, 1)
        self.assertEqual(self.all_told((1, (fresh,))), [(1, 1)])
        self.assertEqual(self.all_told((1, (((), ((0, 5),), 9, 2), ((), ((0, 7),), 0, 3)))), [(5, 2)])
        self.assertEqual(self.all_told((2, (fresh, (((0, 3),), ((1, 2),), 5, 0)))), [(1, 1), (2, 3)])
        self.assertEqual(self.all_told((2, (fresh, (((0, 3),), ((0, 2), (1, 2)), 0, 0)))), [(1, 1), (2, 1)])
        self.assertEqual(self.all_told((3, (fresh, (((0, 1),), ((1, 1), (2, 1)), 0, 0), (((1, 1),), ((0, 1),), 0, 1)))),
                         [(1, 1), (1, 1), (1, 1)])

    def test_swells(self):
        self.assertEqual(self.all_told((2, (((), ((0, 1),), 0, 0), (((0, 1),), ((1, 1),), 0, 0)))), ["swells", "swells"])
        self.assertEqual(self.all_told((2, (((), ((0, 1),), 0, 1), (((0, 1),), ((0, 1), (1, 1)), 0, 0)))), [(1, 1), "swells"])
        # Something must be there first, and it costs.
        deeds = [((), ((0, 1),), 0, 1)] + [(((place, 99),), ((place + 1, 1),), 0, 0) for place in range(9)]
        deeds.append((((9, 1),), ((9, 1), (0, 1)), 0, 0))
        self.assertEqual(self.all_told((10, tuple(deeds))), ["swells"] * 10)

    def test_a_place_that_does_not_come(self):
        yard = (3, (((), ((0, 1),), 0, 1), (((1, 1),), ((1, 2), (2, 1)), 0, 0)))
        self.assertEqual(self.all_told(yard), [(1, 1), NOUGHT, NOUGHT])
        self.assertEqual(self.all_told((2, ())), [NOUGHT, NOUGHT])

    def test_a_place_that_is_taken_from_only(self):
        self.assertEqual(self.all_told((1, ((((0, 1),), (), 0, 0),))), [NOUGHT])

    def test_load_is_all_one(self):
        for load in (0, 7, 999):
            self.assertEqual(self.all_told((2, (((), ((0, 3),), load, 2), (((0, 2),), ((1, 1),), load, 0)))), [(3, 2), (3, 4)])

    def test_by_chance(self):
        words = {"swells": 0, "nought": 0, "above": 0}
        for seed in range(150):
            yard = some_yard(seed, 1 + seed % 6, 1 + seed % 9) if seed % 3 else paying_yard(seed, 2 + seed % 5, 12)
            for told in self.all_told(yard):
                words["nought" if told == NOUGHT else "swells" if told == "swells" else "above"] += 1
        self.assertGreater(min(words.values()), 40)

    def test_no_row_has_more_there(self):
        chance = random.Random(7)
        for seed in range(30):
            yard = paying_yard(seed, 3, 8, 2, 3)
            tolls = self.all_told(yard)
            stand, pay = [0, 0, 0], 0
            for time in range(200):
                takes, gives, load, paid = chance.choice(yard[1])
                if all(stand[place] >= count for place, count in takes):
                    pay += paid
                    for sign, side in ((-1, takes), (1, gives)):
                        for place, count in side:
                            stand[place] += sign * count
                for now, most in zip(stand, tolls):
                    self.assertTrue(most == "swells" or now <= Fraction(*most) * pay)

    def test_as_many_as_there_may_be(self):
        for place in (0, 50, 99):
            self.told(paying_yard(2, 100, 400), place)
            self.told(some_yard(2, 100, 400, 3, 9), place)

    def test_each_list_told_is_a_new_one(self):
        fresh = ((), ((0, 1),), 0, 1)
        for yard in ((1, (fresh,)), (1, ()), (1, (fresh, ((), ((0, 1),), 0, 0)))):
            first = crowd(yard, 0)
            kept = repr(first)
            for row in first[-1]:
                row.append((0, 1))
                row[0] = None
            self.assertEqual(repr(crowd(yard, 0)), kept)


class Crowds(unittest.TestCase):
    """[6.2]: whether what is told of a crowd holds."""

    YARD = (3, (((), ((0, 1),), 0, 1), (((0, 3),), ((1, 2),), 5, 0), (((2, 1),), ((2, 2), (1, 1)), 0, 0)))

    def judged(self, yard, place, paper):
        found = crowds(yard, place, paper)
        self.assertIs(found, crowd_fault(yard, place, paper) is None, (yard, place, paper))
        return found

    def test_just_so_and_a_little_off(self):
        tiny = Fraction(1, GREAT)
        s, one, other = Fraction(2, 3), Fraction(2, 3), Fraction(1)
        for ratios, holds in (((s, one, other), True), ((s - tiny, one, other), False), ((s, one - tiny, other), False),
                              ((s, one + tiny, other), False), ((s, one, other - tiny), False), ((s, one, other + tiny), False),
                              ((s + tiny, one + tiny, other + tiny), True), ((GREAT, GREAT, 1), True), ((s, one, 0), False)):
            paper = (pair(ratios[0]), (pair(ratios[1]), pair(ratios[2]), NOUGHT), (2,))
            self.assertIs(self.judged(self.YARD, 1, paper), holds, ratios)

    def test_a_weight_of_1_at_the_place(self):
        weights = ((GREAT - 1, GREAT), NOUGHT, NOUGHT)
        self.assertIs(self.judged(self.YARD, 0, ((1, 1), weights, (2,))), False)
        self.assertIs(self.judged(self.YARD, 0, ((1, 1), ((1, 1), NOUGHT, NOUGHT), (2,))), True)
        self.assertIs(self.judged(self.YARD, 1, ((1, 1), ((1, 1), NOUGHT, NOUGHT), (2,))), False)

    def test_the_place_in_shut(self):
        nothing = (NOUGHT, NOUGHT, NOUGHT)
        self.assertIs(self.judged(self.YARD, 2, (NOUGHT, nothing, (2,))), True)
        self.assertIs(self.judged(self.YARD, 2, (NOUGHT, nothing, ())), False)
        self.assertIs(self.judged(self.YARD, 1, (NOUGHT, nothing, (2,))), False)
        # This one is not shut: its weight must be borne.
        self.assertIs(self.judged(self.YARD, 0, (NOUGHT, nothing, (0,))), False)
        self.assertIs(self.judged(self.YARD, 0, ((GREAT, 1), ((1, 1),) * 3, (0, 1, 2))), False)

    def test_a_ratio_below_nought(self):
        self.assertIs(self.judged((1, ()), 0, ((-1, GREAT), ((1, 1),), ())), False)
        self.assertIs(self.judged((1, ()), 0, ((0, 1), ((1, 1),), ())), True)
        self.assertIs(self.judged((2, ()), 0, ((0, 1), ((1, 1), (-1, 1)), ())), False)
        self.assertIs(self.judged((1, ()), 0, ((0, 1), ((-1, 1),), (0,))), False)
        self.assertIs(self.judged(self.YARD, 0, ((1, 1), ((1, 1), (-1, 9), NOUGHT), (2,))), False)

    def test_load_is_all_one(self):
        for load in (0, 999):
            self.assertIs(self.judged((1, (((), ((0, 1),), load, 1),)), 0, ((1, 1), ((1, 1),), ())), True)

    def test_by_chance(self):
        words = {True: 0, False: 0}
        chance = random.Random(2)
        for seed in range(1500):
            yard = some_yard(seed, 3, 3)
            weights = tuple(some_ratio(chance, 3) for place in range(3))
            paper = (some_ratio(chance, 99), weights, some_shut(chance, yard))
            words[self.judged(yard, chance.randrange(3), paper)] += 1
        self.assertGreater(min(words.values()), 50)


if __name__ == "__main__":
    unittest.main()
