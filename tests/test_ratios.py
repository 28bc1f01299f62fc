import unittest
from fractions import Fraction

from helper import STRANGE, is_plain_ratio, nested
from tryweir.errors import NoRatio, WeirError
from tryweir.ratios import floor_of, is_ratio, less, minus, on_one_bottom, over, plus, ratio, times

GREAT = (10 ** 30 + 57, -(10 ** 31) + 9, 3 ** 70, -(2 ** 101) * 3 ** 20, 10 ** 60 - 1, 10 ** 60)
SMALL = tuple(range(-12, 13))


def told(fraction):
    return (fraction.numerator, fraction.denominator)


class Made(unittest.TestCase):
    """[1.1]: ratios are made."""

    def test_lowest_terms(self):
        for top in SMALL + GREAT:
            for bottom in SMALL + GREAT:
                if bottom != 0:
                    made = ratio(top, bottom)
                    self.assertTrue(is_plain_ratio(made), made)
                    self.assertEqual(made, told(Fraction(top, bottom)))

    def test_written_out(self):
        self.assertEqual(ratio(6, 4), (3, 2))
        self.assertEqual(ratio(-6, 4), (-3, 2))
        self.assertEqual(ratio(6, -4), (-3, 2))
        self.assertEqual(ratio(-6, -4), (3, 2))
        self.assertEqual(ratio(7, 7), (1, 1))
        self.assertEqual(ratio(10 ** 40, 10 ** 38), (100, 1))

    def test_nought(self):
        for bottom in (1, -1, 5, -5, 10 ** 60, -10 ** 60):
            self.assertEqual(ratio(0, bottom), (0, 1))
        self.assertEqual(ratio(0), (0, 1))

    def test_one_number_alone(self):
        for top in SMALL + GREAT:
            self.assertEqual(ratio(top), (top, 1))

    def test_nought_below(self):
        for top in (0, 1, -1, 10 ** 60):
            with self.assertRaises(NoRatio):
                ratio(top, 0)

    def test_no_whole_numbers(self):
        strange = (None, True, False, "", "1", "a", (), [], (1,), [1], (1, 2), {}, {1: 2}, {1}, b"1", object(), int,
                   len, range(3), nested(30), Fraction(1, 2), NoRatio("x"))
        for thing in strange:
            for good in (0, 1, -3, 10 ** 60):
                with self.assertRaises(NoRatio):
                    ratio(thing, good)
                with self.assertRaises(NoRatio):
                    ratio(good, thing)
            with self.assertRaises(NoRatio):
                ratio(thing)
            with self.assertRaises(NoRatio):
                ratio(thing, thing)

    def test_a_refusal_is_a_weir_error(self):
        with self.assertRaises(WeirError):
            ratio(1, 0)
        with self.assertRaises(ValueError):
            ratio("1", 0)


class Reckoned(unittest.TestCase):
    """The interface: what is done with ratios."""

    def setUp(self):
        small = [Fraction(top, bottom) for top in range(-7, 8) for bottom in range(1, 6)]
        great = [Fraction(top, abs(bottom)) for top in GREAT for bottom in GREAT]
        self.fractions = sorted(set(small + great[::3]))

    def pairs(self):
        for one in self.fractions:
            for other in self.fractions:
                yield one, other, told(one), told(other)

    def test_plus_minus_times(self):
        for one, other, first, second in self.pairs():
            self.assertEqual(plus(first, second), told(one + other))
            self.assertEqual(minus(first, second), told(one - other))
            self.assertEqual(times(first, second), told(one * other))

    def test_over(self):
        for one, other, first, second in self.pairs():
            if other == 0:
                with self.assertRaises(NoRatio):
                    over(first, second)
            else:
                self.assertEqual(over(first, second), told(one / other))

    def test_less(self):
        for one, other, first, second in self.pairs():
            self.assertIs(less(first, second), one < other)

    def test_floor(self):
        for one in self.fractions:
            self.assertEqual(floor_of(told(one)), one.__floor__())
        self.assertEqual([floor_of((top, 2)) for top in (-3, -1, 1, 3)], [-2, -1, 0, 1])
        self.assertEqual([floor_of((top, 1)) for top in (-3, -1, 0, 3)], [-3, -1, 0, 3])
        self.assertEqual(floor_of((-(10 ** 40) - 1, 10 ** 10)), -(10 ** 30) - 1)

    def test_all_of_them_tell_ratios(self):
        for one, other, first, second in self.pairs():
            for found in (plus(first, second), minus(first, second), times(first, second)):
                self.assertTrue(is_plain_ratio(found))


class OneBottom(unittest.TestCase):
    """Several ratios over one bottom."""

    def test_all_stay_what_they_are(self):
        ratios = [ratio(top, bottom) for top, bottom in zip(SMALL + GREAT, GREAT + (1, 2, 6, 9, 12) + GREAT * 4)]
        for many in range(len(ratios) + 1):
            tops, bottom = on_one_bottom(ratios[:many])
            self.assertGreaterEqual(bottom, 1)
            self.assertEqual([ratio(top, bottom) for top in tops], ratios[:many])

    def test_no_greater_than_needed(self):
        self.assertEqual(on_one_bottom(()), ([], 1))
        self.assertEqual(on_one_bottom(((1, 6), (-3, 4), (5, 1))), ([2, -9, 60], 12))


class Judged(unittest.TestCase):
    """[1.1]: what is a ratio."""

    def test_ratios(self):
        for thing in ((0, 1), (1, 1), (-1, 1), (3, 2), (-3, 2), (10 ** 60, 1), (1, 10 ** 60), (10 ** 60, 10 ** 60 - 1),
                      ratio(10 ** 900 + 1, 3 ** 900)):
            self.assertIs(is_ratio(thing), True)

    def test_none(self):
        for thing in ((0, 2), (0, 0), (1, 0), (2, 2), (6, 4), (-6, 4), (3, -2), (-3, -2), (0, -1), [0, 1], [3, 2],
                      (10 ** 60, 10), (3,), (3, 2, 1), (True, 2), (3, True), (False, 1), ("3", 2), (3, "2"), "32",
                      ((3,), 2), (3, (2,)), (None, 2), (3, None)):
            self.assertIs(is_ratio(thing), False, repr(thing))

    def test_anything(self):
        for thing in STRANGE:
            self.assertIs(is_ratio(thing), False, repr(thing))
        self.assertIs(is_ratio(nested(30)), False)
        self.assertIs(is_ratio(tuple(range(4000))), False)
        for thing in ({}, {1: 2}, {1, 2}, object(), b"12"):
            self.assertIs(is_ratio(thing), False)


if __name__ == "__main__":
    unittest.main()
