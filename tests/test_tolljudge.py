import copy
import random
import unittest
from fractions import Fraction

from helper import counted, paper_fault, paying_yard, ring_fault, some_yard
from tryweir.coming import comes
from tryweir.tolljudge import pays, shows
from tryweir.tolls import toll

GREAT = 10 ** 60

# Fresh things come to place 0; three of them make one at place 1, with load 5; nothing comes to place 2, which swells.
FRESH = ((), ((0, 1),), 0, 2)
MAKE = (((0, 3),), ((1, 1),), 5, 0)
SWELL = (((2, 1),), ((1, 1), (2, 2)), 9, 0)
YARD = (3, (FRESH, MAKE, SWELL))


def loads(yard):
    return [deed[2] for deed in yard[1]]


def pair(one):
    return (Fraction(one).numerator, Fraction(one).denominator)


def some_ratio(chance, greatest):
    return pair(Fraction(chance.randint(-1, greatest), chance.randint(1, greatest)))


class Pays(unittest.TestCase):
    """[5.1]: whether a paper holds."""

    def judged(self, yard, paper):
        """The judge's word, which is to be that of the plain one."""
        found = pays(yard, paper)
        self.assertIs(found, paper_fault(yard, paper, loads(yard)) is None, (yard, paper))
        return found

    def test_what_toll_tells(self):
        told = 0
        for seed in range(150):
            yard = some_yard(seed, seed % 7, 8) if seed % 2 else paying_yard(seed, 2 + seed % 6, 12)
            answer = toll(yard)
            if answer[0] == "toll":
                told += 1
                self.assertIs(self.judged(yard, answer[1]), True)
        self.assertGreater(told, 80)

    def test_papers_of_ones_own(self):
        for paper in (((5, 6), ((5, 3), (0, 1), (0, 1)), (2,)), ((1, 1), ((5, 3), (0, 1), (0, 1)), (2,)),
                      ((1, 1), ((2, 1), (0, 1), (0, 1)), (2,)), ((1, 1), ((2, 1), (1, 1), (GREAT, 7)), (2,)),
                      ((GREAT, 1), ((GREAT, 1), (GREAT, 1), (0, 1)), (2,)), ((5, 1), ((10, 1), (25, 1), (0, 1)), (2,))):
            self.assertIs(self.judged(YARD, paper), True, paper)

    def test_a_deed_that_does_not_pay(self):
        for paper in (((5, 6), ((5, 3), (1, GREAT), (0, 1)), (2,)), ((5, 6), ((5 * GREAT + 1, 3 * GREAT), (0, 1), (0, 1)), (2,)),
                      ((5 * GREAT - 1, 6 * GREAT), ((5, 3), (0, 1), (0, 1)), (2,)), ((1, 2), ((5, 3), (0, 1), (0, 1)), (2,)),
                      ((5, 6), ((3, 2), (0, 1), (0, 1)), (2,)), ((0, 1), ((0, 1), (0, 1), (0, 1)), (2,)),
                      ((5, 1), ((10, 1), (26, 1), (0, 1)), (2,))):
            self.assertIs(self.judged(YARD, paper), False, paper)

    def test_deeds_that_take_one_of_shut_need_not_pay(self):
        weights = ((5, 3), (0, 1), (0, 1))
        self.assertIs(self.judged(YARD, ((5, 6), weights, (2,))), True)
        self.assertIs(self.judged(YARD, ((5, 6), weights, ())), False)
        yard = (2, ((((0, 1), (1, 1)), ((0, 99),), 999, 0), ((), ((0, 1),), 0, 0)))
        self.assertIs(self.judged(yard, ((0, 1), ((0, 1), (0, 1)), (1,))), True)
        self.assertIs(self.judged(yard, ((0, 1), ((0, 1), (0, 1)), ())), False)

    def test_shut_that_is_not_shut(self):
        # Each of these would pay, if only what is given as shut were so.
        for shut in ((0,), (1,), (0, 1), (0, 2), (1, 2), (0, 1, 2)):
            self.assertIs(self.judged(YARD, ((GREAT, 1), ((5, 3), (0, 1), (0, 1)), shut)), False, shut)
        self.assertIs(pays((1, (((), ((0, 1),), 9, 0),)), ((0, 1), ((0, 1),), (0,))), False)
        yard = (2, ((((0, 1),), ((1, 1),), 9, 0),))
        for shut, holds in (((), False), ((0,), True), ((1,), False), ((0, 1), True)):
            self.assertIs(self.judged(yard, ((0, 1), ((0, 1), (0, 1)), shut)), holds, shut)

    def test_ratios_below_nought(self):
        # The sums of these would do.
        self.assertIs(self.judged((0, ()), ((-1, 1), (), ())), False)
        self.assertIs(self.judged((0, ()), ((-1, GREAT), (), ())), False)
        self.assertIs(self.judged((0, ()), ((0, 1), (), ())), True)
        self.assertIs(self.judged((1, ()), ((0, 1), ((-1, GREAT),), ())), False)
        self.assertIs(self.judged((1, ()), ((0, 1), ((-1, 1),), (0,))), False)
        self.assertIs(self.judged((1, (((), ((0, 1),), 5, 0),)), ((0, 1), ((-5, 1),), ())), False)
        self.assertIs(self.judged((1, (((), (), 0, 0),)), ((-3, 1), ((0, 1),), ())), False)
        self.assertIs(self.judged(YARD, ((5, 6), ((5, 3), (-1, 9), (0, 1)), (2,))), False)
        self.assertIs(self.judged(YARD, ((5, 6), ((5, 3), (0, 1), (-1, 9)), (2,))), False)

    def test_no_places_and_no_deeds(self):
        self.assertIs(self.judged((3, ()), ((0, 1), ((0, 1),) * 3, ())), True)
        self.assertIs(self.judged((3, ()), ((7, 2), ((1, 3), (0, 1), (GREAT, 1)), (0, 1, 2))), True)
        yard = (0, (((), (), 7, 2), ((), (), 3, 1), ((), (), 0, 0)))
        self.assertIs(self.judged(yard, ((7, 2), (), ())), True)
        self.assertIs(self.judged(yard, ((7 * GREAT - 1, 2 * GREAT), (), ())), False)
        self.assertIs(self.judged((0, (((), (), 1, 0),)), ((GREAT, 1), (), ())), False)

    def test_a_place_on_both_sides(self):
        yard = (1, (((), ((0, 1),), 0, 1), (((0, 2),), ((0, 1),), 3, 0)))
        self.assertIs(self.judged(yard, ((3, 1), ((3, 1),), ())), True)
        self.assertIs(self.judged(yard, ((3, 1), ((2, 1),), ())), False)
        self.assertIs(self.judged(yard, ((3, 1), ((4, 1),), ())), False)

    def test_any_ratios(self):
        words = {True: 0, False: 0}
        chance = random.Random(3)
        for seed in range(600):
            yard = some_yard(seed, 3, 3)
            others = tuple(place for place in range(3) if place not in comes(yard)[0])
            shut = chance.choice((others, others, (), (0,), (1, 2)))
            weights = tuple(some_ratio(chance, 9) for place in range(3))
            words[self.judged(yard, (some_ratio(chance, 99), weights, shut))] += 1
        self.assertGreater(min(words.values()), 20)

    def test_weights_with_great_tops_and_bottoms(self):
        chance = random.Random(4)
        # Each deed gives less than it takes, whatever the weights are, but for one more that gives just what it pays.
        weights = [Fraction(chance.randint(1, GREAT), chance.randint(1, GREAT)) for place in range(100)]
        deeds = [(((place, 99),), ((place, 98),), 0, 1) for place in range(100)]
        yard = (100, tuple(deeds) + ((tuple((place, 5) for place in range(100)), ((0, 5), (99, 5)), 0, 0),) * 300)
        paper = ((0, 1), tuple(pair(one) for one in weights), ())
        self.assertIs(pays(yard, paper), True)
        heavy = (100, yard[1] + (((), ((0, 1),), 0, 1),))
        self.assertIs(pays(heavy, (pair(weights[0]), paper[1], ())), True)
        self.assertIs(pays(heavy, (pair(weights[0] - Fraction(1, GREAT ** 3)), paper[1], ())), False)
        for tops in (6 * GREAT ** 5 + 1, 6 * GREAT ** 20 + 1):
            self.assertIs(self.judged(YARD, ((tops, 6), ((tops, 3), (0, 1), (0, 1)), (2,))), True)
            self.assertIs(self.judged(YARD, ((tops, 6), ((tops, 3), (3, tops), (0, 1)), (2,))), True)
            self.assertIs(self.judged(YARD, (pair(Fraction(5, 6) - Fraction(1, tops)), ((5, 3), (0, 1), (0, 1)), (2,))), False)

    def test_no_ring_shows_more_than_a_paper_that_holds(self):
        # [0.4], of loops by chance, with covers that are long enough.
        chance = random.Random(8)
        rings = 0
        for seed in range(200):
            yard = paying_yard(seed, 3, 6, 2, 3)
            paper = toll(yard)[1]
            self.assertIs(pays(yard, paper), True)
            for time in range(10):
                cover = [(number, chance.randint(1, 9)) for number, deed in enumerate(yard[1]) if not deed[0]]
                loop = [(chance.randrange(6), chance.randint(1, 4)) for step in range(chance.randint(1, 4))]
                shown = shows(yard, (cover, loop))
                if shown is not None:
                    rings += 1
                    self.assertEqual(shown[0], "toll")
                    self.assertLessEqual(Fraction(*shown[1]), Fraction(*paper[0]))
        self.assertGreater(rings, 100)


class Shows(unittest.TestCase):
    """[5.2]: what a ring shows."""

    def test_an_empty_loop(self):
        for yard in ((0, ()), (3, ()), YARD):
            self.assertEqual(shows(yard, ([], [])), ("toll", (0, 1)))
            self.assertEqual(shows(yard, ((), ())), ("toll", (0, 1)))
        self.assertEqual(shows(YARD, ([(0, 4), (1, 1)], [])), ("toll", (0, 1)))

    def test_no_load_and_no_pay(self):
        yard = (2, (((), ((0, 1),), 3, 1), (((0, 1),), ((0, 1), (1, 1)), 0, 0)))
        self.assertEqual(shows(yard, ([(0, 1)], [(1, 7)])), ("toll", (0, 1)))

    def test_pay_without_load(self):
        self.assertEqual(shows(YARD, ([], [(0, 5)])), ("toll", (0, 1)))

    def test_tolls_in_lowest_terms(self):
        self.assertEqual(shows(YARD, ([], [(0, 3), (1, 1)])), ("toll", (5, 6)))
        self.assertEqual(shows(YARD, ([], [(0, 30), (1, 10)])), ("toll", (5, 6)))
        self.assertEqual(shows(YARD, ([(0, 9)], [(0, 15), (1, 2)])), ("toll", (1, 3)))
        self.assertEqual(shows(YARD, ([], [(0, 4), (1, 1)])), ("toll", (5, 8)))
        self.assertEqual(shows((0, (((), (), 6, 3),)), ([], [(0, 1)])), ("toll", (2, 1)))

    def test_swells(self):
        yard = (1, (((), ((0, 1),), 0, 1), (((0, 1),), ((0, 1),), 1, 0), ((), (), 2, 0)))
        self.assertEqual(shows(yard, ([(0, 1)], [(1, 1)])), ("swells",))
        self.assertEqual(shows(yard, ([], [(2, 1)])), ("swells",))
        self.assertEqual(shows(yard, ([], [(0, 1), (1, 1)])), ("toll", (1, 1)))
        self.assertIsNone(shows(yard, ([], [(1, 1)])))

    def test_a_cover_that_cannot_be_walked(self):
        for cover in ([(1, 1)], [(0, 2), (1, 1)], [(0, 3), (1, 2)], [(0, 3), (1, 1), (1, 1)], [(2, 1)], [(1, 1), (0, 3)]):
            self.assertIsNone(shows(YARD, (cover, [])), cover)
            self.assertIsNone(shows(YARD, (cover, [(0, 1)])), cover)
        self.assertIsNone(shows(YARD, ([(0, 3 * GREAT - 1), (1, GREAT)], [(0, 1)])))
        self.assertEqual(shows(YARD, ([(0, 3 * GREAT), (1, GREAT)], [(0, 1)])), ("toll", (0, 1)))

    def test_a_loop_that_cannot_be_walked_from_there(self):
        self.assertIsNone(shows(YARD, ([], [(1, 1), (0, 3)])))
        self.assertIsNone(shows(YARD, ([(0, 2)], [(1, 1), (0, 3)])))
        self.assertIsNone(shows(YARD, ([(0, 3), (1, 1)], [(1, 1), (0, 3)])))
        self.assertEqual(shows(YARD, ([(0, 3)], [(1, 1), (0, 3)])), ("toll", (5, 6)))
        self.assertEqual(shows(YARD, ([(0, 4), (1, 1), (0, 2)], [(1, 1), (0, 3)])), ("toll", (5, 6)))

    def test_a_change_below_nought(self):
        self.assertIsNone(shows(YARD, ([(0, 3)], [(1, 1)])))
        self.assertIsNone(shows(YARD, ([(0, 9)], [(0, 2), (1, 1)])))
        self.assertIsNone(shows(YARD, ([(0, GREAT)], [(0, 3 * GREAT - 1), (1, GREAT)])))
        yard = (2, (((), ((0, 9),), 0, 1), (((0, 1),), ((1, 99),), 9, 0)))
        self.assertIsNone(shows(yard, ([(0, 1)], [(1, 1)])))

    def test_rows_as_lists_and_as_tuples(self):
        cover = [(0, 3)]
        loop = [(1, 1), (0, 3)]
        for ring in ((cover, loop), (tuple(cover), loop), (cover, tuple(loop)), (tuple(cover), tuple(loop))):
            before = copy.deepcopy(ring)
            self.assertEqual(shows(YARD, ring), ("toll", (5, 6)))
            self.assertEqual(ring, before)

    def test_times_of_40_figures(self):
        many = 10 ** 40 - 1
        self.assertEqual(shows(YARD, ([], [(0, 3 * many), (1, many)])), ("toll", (5, 6)))
        self.assertEqual(shows(YARD, ([], [(0, 3 * many + 1), (1, many)])), ("toll", (5 * many, 6 * many + 2)))
        self.assertIsNone(shows(YARD, ([], [(0, 3 * many - 1), (1, many)])))
        yard = (1, (((), ((0, 1),), 0, 1), (((0, 5),), ((0, 5),), 1, 0)))
        self.assertEqual(shows(yard, ([(0, 5)], [(1, many)])), ("swells",))
        self.assertIsNone(shows(yard, ([(0, 4)], [(1, many)])))

    def test_by_chance(self):
        words = {None: 0, "toll": 0, "swells": 0}
        chance = random.Random(6)
        for seed in range(3000):
            yard = some_yard(seed, 3, 5, 2, 2)
            ring = tuple([(chance.randrange(5), chance.randint(1, 5)) for step in range(chance.randint(0, 4))]
                         for row in range(2))
            expected = None
            if ring_fault(yard, ring) is None:
                load, pay, change = counted(yard, ring[1])
                expected = ("swells",) if load and not pay else ("toll", pair(Fraction(load, pay)) if pay else (0, 1))
            self.assertEqual(shows(yard, ring), expected)
            words[expected and expected[0]] += 1
        self.assertGreater(min(words.values()), 20)

    def test_rows_of_other_yards(self):
        for row in ([(3, 1)], [(-1, 1)], [(0, 0)], [(0, -1)]):
            self.assertIsNone(shows(YARD, (row, [])))
            self.assertIsNone(shows(YARD, ([], row)))


if __name__ == "__main__":
    unittest.main()
