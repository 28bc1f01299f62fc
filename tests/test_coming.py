import itertools
import unittest

from helper import STRANGE, nested, shut_by_hand, some_yard
from tryweir.coming import comes, cover, is_shut
from tryweir.rows import is_row, walked
from tryweir.yards import empty

GREAT = 10 ** 75


def single(many, place, number):
    return tuple(number if at == place else 0 for at in range(many))


class Comes(unittest.TestCase):
    """[3.1]: what comes."""

    def test_nothing_comes(self):
        self.assertEqual(comes((0, ())), ((), ()))
        self.assertEqual(comes((3, ())), ((), ()))
        self.assertEqual(comes((2, ((((0, 1),), ((1, 1),), 0, 0), (((1, 1),), ((0, 1),), 0, 0)))), ((), ()))
        self.assertEqual(comes((1, ((((0, 1),), ((0, 2),), 0, 0),))), ((), ()))

    def test_deeds_that_take_nothing(self):
        self.assertEqual(comes((2, (((), (), 0, 0),))), ((), (0,)))
        self.assertEqual(comes((2, (((), ((1, 1),), 0, 0), ((), (), 0, 1)))), ((1,), (0, 1)))

    def test_all_comes(self):
        deeds = (((), ((0, 1),), 0, 1), (((0, 9),), ((1, 1),), 0, 0), (((0, 1), (1, 99)), ((2, 1),), 0, 0))
        for order in itertools.permutations(deeds):
            self.assertEqual(comes((3, order)), ((0, 1, 2), (0, 1, 2)))

    def test_a_deed_that_takes_what_does_not_come(self):
        yard = (3, (((), ((0, 1),), 0, 1), (((0, 1), (1, 1)), ((2, 1),), 0, 0), (((0, 1),), (), 0, 0)))
        self.assertEqual(comes(yard), ((0,), (0, 2)))

    def test_a_long_chain_whose_deeds_stand_backwards(self):
        deeds = tuple((((at - 1, 2),) if at else (), ((at, 1),), 0, 0) for at in reversed(range(100)))
        self.assertEqual(comes((100, deeds)), (tuple(range(100)), tuple(range(100))))

    def test_just_what_rows_reach(self):
        # Each place told can be covered, and all others are shut: so neither set is too small or too great.
        for seed in range(300):
            yard = some_yard(seed, 6, 7)
            places, deeds = comes(yard)
            self.assertIs(type(places), tuple)
            self.assertEqual(places, tuple(sorted(set(places))))
            self.assertEqual(deeds, tuple(sorted(set(deeds))))
            others = tuple(place for place in range(6) if place not in places)
            self.assertTrue(shut_by_hand(yard, others))
            for number, deed in enumerate(yard[1]):
                self.assertEqual(number in deeds, not {place for place, count in deed[0]} & set(others))
            for place in places:
                word, row = cover(yard, single(6, place, 1))
                self.assertEqual(word, "row")
                self.assertGreaterEqual(walked(yard, empty(yard), row)[place], 1)


class Covered(unittest.TestCase):
    """[3.1] and the interface: stands are covered."""

    def covers(self, yard, stand):
        told = cover(yard, stand)
        self.assertEqual(told[0], "row")
        self.assertIs(type(told), tuple)
        self.assertIs(type(told[1]), list)
        self.assertIs(is_row(yard, told[1]), True)
        self.assertLessEqual(len(told[1]), 400)
        behind = walked(yard, empty(yard), told[1])
        self.assertTrue(all(now >= asked for now, asked in zip(behind, stand)), (stand, behind))

    def test_nothing_to_cover(self):
        self.covers((0, ()), ())
        self.covers((3, ()), (0, 0, 0))
        self.covers((1, (((), ((0, 1),), 0, 0),)), (0,))

    def test_numbers_that_do_not_come_out_even(self):
        yard = (2, (((), ((0, 7),), 0, 1), (((0, 5),), ((1, 3),), 0, 0)))
        for one in range(16):
            for other in range(10):
                self.covers(yard, (one, other))

    def test_one_deed_gives_several_places(self):
        yard = (3, (((), ((0, 1), (1, 1), (2, 1)), 0, 1), (((0, 1),), ((1, 5),), 0, 0)))
        self.covers(yard, (3, 9, 2))

    def test_a_maker_is_taken_by_many(self):
        # Place 0 feeds all others, each feeds all behind it: the wants pile up.
        deeds = tuple((tuple((below, 99) for below in range(at)), ((at, 1),), 0, 0) for at in range(40))
        self.covers((40, deeds), (1,) * 40)
        self.covers((40, tuple(reversed(deeds))), (GREAT,) * 40)

    def test_long_chains_and_great_numbers(self):
        deeds = tuple((((at - 1, 99),) if at else (), ((at, 1),), 0, 0) for at in range(100))
        self.covers((100, deeds), single(100, 99, GREAT))
        self.covers((100, deeds), (10 ** 60 - 1,) * 100)
        self.covers((100, tuple(reversed(deeds))), (10 ** 60 - 1,) * 100)

    def test_places_taken_and_given_by_one_deed(self):
        yard = (2, ((((0, 2),), ((0, 3), (1, 1)), 0, 0), ((), ((0, 1),), 0, 1)))
        self.covers(yard, (0, 5))
        self.covers(yard, (8, GREAT))

    def test_all_stands_at_what_comes(self):
        for seed in range(200):
            yard = some_yard(seed, 6, 8)
            places = comes(yard)[0]
            for number in (1, 2, 7, GREAT):
                self.covers(yard, tuple(number if place in places else 0 for place in range(6)))

    def test_shut(self):
        yard = (4, (((), ((1, 1),), 0, 1), (((0, 1),), ((3, 1), (2, 1)), 0, 0)))
        for stand in ((1, 0, 0, 0), (0, 5, 0, 1), (GREAT, 1, 1, 1)):
            self.assertEqual(cover(yard, stand), ("shut", (0, 2, 3)))
        self.covers(yard, (0, GREAT, 0, 0))
        self.assertEqual(cover((2, ()), (0, 1)), ("shut", (0, 1)))

    def test_all_places_that_do_not_come_are_told(self):
        for seed in range(200):
            yard = some_yard(seed, 6, 5)
            others = tuple(place for place in range(6) if place not in comes(yard)[0])
            for place in others:
                self.assertEqual(cover(yard, single(6, place, 1)), ("shut", others))
                self.assertEqual(cover(yard, (GREAT,) * 6), ("shut", others))

    def test_each_row_told_is_a_new_one(self):
        yard = (2, (((), ((0, 7),), 0, 1), (((0, 5),), ((1, 3),), 0, 0)))
        first = cover(yard, (3, 4))
        copy = list(first[1])
        first[1].append((0, 1))
        first[1][0] = None
        self.assertEqual(cover(yard, (3, 4)), ("row", copy))
        nothing = cover(yard, (0, 0))
        nothing[1].append((0, 1))
        self.assertEqual(walked(yard, (0, 0), cover(yard, (0, 0))[1]), (0, 0))


class Shut(unittest.TestCase):
    """[3.2]: shut places."""

    def test_none_and_all(self):
        self.assertIs(is_shut((2, (((), ((0, 1),), 0, 0),)), ()), True)
        self.assertIs(is_shut((2, (((), ((0, 1),), 0, 0),)), (0, 1)), False)
        self.assertIs(is_shut((2, ((((1, 1),), ((0, 1),), 0, 0),)), (0, 1)), True)
        self.assertIs(is_shut((0, ()), ()), True)
        self.assertIs(is_shut((2, (((), (), 0, 0),)), (0, 1)), True)

    def test_a_deed_that_takes_what_it_gives(self):
        yard = (2, ((((0, 1),), ((0, 2), (1, 1)), 0, 0),))
        self.assertEqual([is_shut(yard, places) for places in ((), (0,), (1,), (0, 1))], [True, True, False, True])

    def test_all_sets_of_small_yards(self):
        for seed in range(80):
            yard = some_yard(seed, 5, 5)
            for size in range(6):
                for places in itertools.combinations(range(5), size):
                    self.assertIs(is_shut(yard, places), shut_by_hand(yard, places))

    def test_those_that_do_not_come(self):
        for seed in range(100):
            yard = some_yard(seed, 6, 5)
            others = tuple(place for place in range(6) if place not in comes(yard)[0])
            self.assertIs(is_shut(yard, others), True)

    def test_what_is_no_rising_tuple_of_places(self):
        # Nothing gives anything here: all that is a rising tuple of places is shut.
        yard = (4, ())
        for thing in ((1, 0), (1, 1), (4,), (-1,), (0, 4), [0], [], (True,), (0, True), ("0",), (None,), ((0,),)):
            self.assertIs(is_shut(yard, thing), False, repr(thing))
        for thing in STRANGE + (nested(30),):
            self.assertIn(is_shut(yard, thing), (True, False))


if __name__ == "__main__":
    unittest.main()
