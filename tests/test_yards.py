import unittest

from helper import STRANGE, nested, some_yard, step
from tryweir.errors import NoDeed
from tryweir.yards import done, empty, is_yard

PLAIN = ((), (), 0, 0)
FULL = (tuple((place, 99) for place in range(100)), tuple((place, 1) for place in range(100)), 999, 999)


def with_takes(*takes):
    return (3, ((takes, (), 0, 0),))


def with_gives(*gives):
    return (3, (((), gives, 0, 0),))


class Judged(unittest.TestCase):
    """[2.1]: what is a yard."""

    def test_bounds_within(self):
        for yard in ((0, ()), (100, ()), (0, (PLAIN,)), (0, (PLAIN,) * 400), (100, (PLAIN,) * 400), (100, (FULL,) * 400),
                     (1, ((((0, 1),), ((0, 99),), 0, 0),)), (1, ((((0, 99),), ((0, 1),), 999, 0),)),
                     (3, (((), ((0, 1), (2, 5)), 0, 999),))):
            self.assertIs(is_yard(yard), True)
        for seed in range(30):
            self.assertIs(is_yard(some_yard(seed, seed % 7, 9)), True)

    def test_too_many(self):
        for yard in ((101, ()), (-1, ()), (10 ** 60, ()), (0, (PLAIN,) * 401), (100, (FULL,) * 401)):
            self.assertIs(is_yard(yard), False)

    def test_numbers_beyond(self):
        for number in (0, 100, -1, 10 ** 60):
            self.assertIs(is_yard(with_takes((1, number))), False)
            self.assertIs(is_yard(with_gives((1, number))), False)

    def test_load_and_pay(self):
        for number, good in ((0, True), (1, True), (999, True), (1000, False), (-1, False), (10 ** 60, False)):
            self.assertIs(is_yard((1, (((), (), number, 0),))), good)
            self.assertIs(is_yard((1, (((), (), 0, number),))), good)

    def test_places(self):
        for make in (with_takes, with_gives):
            self.assertIs(is_yard(make((0, 1), (1, 1), (2, 1))), True)
            for pairs in (((3, 1),), ((-1, 1),), ((0, 1), (3, 1)), ((1, 1), (1, 1)), ((1, 1), (1, 2)),
                          ((1, 1), (0, 1)), ((0, 1), (2, 1), (1, 1)), ((10 ** 60, 1),)):
                self.assertIs(is_yard(make(*pairs)), False, pairs)
        self.assertIs(is_yard((0, ((((0, 1),), (), 0, 0),))), False)

    def test_a_place_on_both_sides(self):
        self.assertIs(is_yard((2, ((((0, 1), (1, 1)), ((0, 1), (1, 2)), 0, 0),))), True)

    def test_lists_for_tuples(self):
        for yard in ([0, ()], (0, []), (1, ([(), (), 0, 0],)), (1, (([], (), 0, 0),)), (1, (((), [], 0, 0),)),
                     (1, (([(0, 1)], (), 0, 0),)), (1, ((([0, 1],), (), 0, 0),)), (1, (((), ([0, 1],), 0, 0),))):
            self.assertIs(is_yard(yard), False, yard)

    def test_truths_for_numbers(self):
        for yard in ((True, ()), (False, ()), (2, (((), (), True, 0),)), (2, (((), (), 0, False),)),
                     (2, ((((True, 1),), (), 0, 0),)), (2, ((((0, True),), (), 0, 0),)),
                     (2, (((), ((False, 1),), 0, 0),)), (2, (((), ((0, True),), 0, 0),))):
            self.assertIs(is_yard(yard), False, yard)

    def test_other_forms(self):
        for yard in ((), (1,), (1, (), ()), (1, ((),)), (1, (((), (), 0),)), (1, (((), (), 0, 0, 0),)), (1, (PLAIN, None)),
                     (1, ((None, (), 0, 0),)), (1, (((), None, 0, 0),)), (1, (((), (), None, 0),)), ("1", ()), (None, ()),
                     (1, "ab"), (1, ("ab",)), (1, ("abcd",)), (1, (("", "", 0, 0),)), (1, ((((0,),), (), 0, 0),)),
                     (1, ((((0, 1, 1),), (), 0, 0),)), (1, (((0, 1), (), 0, 0),)), (1, ((("ab",), (), 0, 0),)),
                     (1, ((((0, "1"),), (), 0, 0),)), (1, (((("0", 1),), (), 0, 0),)), (1, 1), (1, PLAIN)):
            self.assertIs(is_yard(yard), False, yard)

    def test_a_fault_in_a_later_deed(self):
        self.assertIs(is_yard((1, (PLAIN,) * 399 + (((), (), 0, 1000),))), False)

    def test_anything(self):
        for thing in STRANGE + (nested(30), tuple(range(4000)), (0, tuple(range(400))), (3, nested(28))):
            self.assertIs(is_yard(thing), False, repr(thing)[:80])


class Done(unittest.TestCase):
    """[2.2]: stands and deeds."""

    def setUp(self):
        self.yard = (3, ((((0, 2), (2, 3)), ((1, 5), (2, 1)), 7, 1), ((), ((0, 99),), 0, 0), (((1, 1),), (), 0, 0), PLAIN))

    def test_empty(self):
        self.assertEqual(empty(self.yard), (0, 0, 0))
        self.assertEqual(empty((0, ())), ())
        self.assertEqual(empty((100, ())), (0,) * 100)

    def test_just_what_it_takes(self):
        self.assertEqual(done(self.yard, (2, 0, 3), 0), (0, 5, 1))
        self.assertEqual(done(self.yard, (0, 1, 0), 2), (0, 0, 0))
        self.assertEqual(done(self.yard, (0, 0, 0), 1), (99, 0, 0))
        self.assertEqual(done(self.yard, (0, 0, 0), 3), (0, 0, 0))

    def test_more_than_it_takes(self):
        self.assertEqual(done(self.yard, (10 ** 60, 4, 9), 0), (10 ** 60 - 2, 9, 7))

    def test_one_less_at_a_place(self):
        # What a deed gives is there behind it, not ahead of it.
        for stand, deed in (((1, 0, 3), 0), ((2, 0, 2), 0), ((2, 10 ** 60, 2), 0), ((9, 0, 9), 2), ((0, 0, 0), 0)):
            with self.assertRaises(NoDeed) as caught:
                done(self.yard, stand, deed)
            self.assertEqual(caught.exception.at, 0)

    def test_as_gone_by_hand(self):
        for seed in range(60):
            yard = some_yard(seed, 4, 6)
            for number in range(6):
                for stand in ((0,) * 4, (1,) * 4, (3, 2, 1, 0), (0, 1, 2, 3), (3,) * 4, (9,) * 4):
                    expected = step(yard, stand, number)
                    if expected is None:
                        with self.assertRaises(NoDeed):
                            done(yard, stand, number)
                    else:
                        found = done(yard, stand, number)
                        self.assertEqual(found, expected)
                        self.assertIs(type(found), tuple)


if __name__ == "__main__":
    unittest.main()
