import random
import unittest

from helper import nested, some_yard, step, steps
from tryweir.errors import NoDeed
from tryweir.rows import change_of, is_row, load_of, need_of, pay_of, walked
from tryweir.yards import empty

GREAT = 10 ** 70
# Deeds: one comes; 3 of place 0 make 2 of place 1; a loop at place 1; place 1 falls by 2 of 5; nothing at all; place 0
# grows by 5 of 4.
YARD = (2, (((), ((0, 1),), 0, 1), (((0, 3),), ((1, 2),), 5, 0), (((1, 4),), ((1, 4),), 2, 3),
            (((1, 5),), ((1, 3),), 1, 0), ((), (), 999, 999), (((0, 4),), ((0, 9),), 0, 0)))


def some_row(seed, count, size):
    chance = random.Random(seed)
    return [(chance.randrange(count), chance.randint(1, 4)) for pair in range(chance.randint(0, size))]


class Judged(unittest.TestCase):
    """[2.2]: what is a row."""

    def test_rows(self):
        for row in ([], (), [(0, 1)], ((0, 1),), [(5, GREAT)], [(0, 1), (0, 1), (3, 2)], ((0, 1), (3, 10 ** 5000)),
                    [(1, 1)] * 2000):
            self.assertIs(is_row(YARD, row), True)

    def test_none(self):
        for thing in ([(6, 1)], [(-1, 1)], [(GREAT, 1)], [(0, 0)], [(0, -1)], [[0, 1]], ([0, 1],), [(0,)], [(0, 1, 1)],
                      [(True, 1)], [(False, 1)], [(0, True)], [(0, None)], [(None, 1)], [("0", 1)], [(0, "1")], ["01"],
                      [0, 1], (0, 1), [None], [(0, 1), None], [(0, 1), (6, 1)], [()], [[]], "", "01", None, True, False,
                      0, 1, nested(30), [(0, (1,))]):
            self.assertIs(is_row(YARD, thing), False, repr(thing)[:80])

    def test_a_yard_without_deeds(self):
        self.assertIs(is_row((3, ()), []), True)
        self.assertIs(is_row((3, ()), [(0, 1)]), False)


class Walked(unittest.TestCase):
    """[2.2]: rows are walked."""

    def refused(self, yard, stand, row, at):
        with self.assertRaises(NoDeed) as caught:
            walked(yard, stand, row)
        self.assertEqual(caught.exception.at, at)

    def test_the_empty_row(self):
        self.assertEqual(walked(YARD, (3, 4), []), (3, 4))
        self.assertEqual(walked((0, ()), (), ()), ())

    def test_pairs_one_behind_the_other(self):
        self.assertEqual(walked(YARD, (0, 0), [(0, 6), (1, 2)]), (0, 4))
        self.assertEqual(walked(YARD, (0, 0), ((0, 7), (1, 2), (2, 9))), (1, 4))

    def test_the_first_pair_that_cannot_be_done_so_often(self):
        self.refused(YARD, (0, 0), [(1, 1)], 0)
        self.refused(YARD, (0, 0), [(0, 5), (1, 2)], 1)
        self.refused(YARD, (0, 0), [(0, 6), (1, 2), (3, 1), (1, 1)], 2)
        self.refused(YARD, (0, 0), [(0, 1), (0, 1), (4, 1), (1, 1), (1, 1)], 3)

    def test_times_of_many_figures(self):
        self.assertEqual(walked(YARD, (0, 0), [(0, 3 * GREAT), (1, GREAT)]), (0, 2 * GREAT))
        self.refused(YARD, (0, 0), [(0, 3 * GREAT - 1), (1, GREAT)], 1)

    def test_what_a_loop_takes_is_needed_once(self):
        self.assertEqual(walked(YARD, (0, 4), [(2, GREAT)]), (0, 4))
        self.refused(YARD, (0, 3), [(2, GREAT)], 0)

    def test_what_is_given_back_helps_the_next_time(self):
        self.assertEqual(walked(YARD, (0, 5 + 2 * (GREAT - 1)), [(3, GREAT)]), (0, 3))
        self.refused(YARD, (0, 4 + 2 * (GREAT - 1)), [(3, GREAT)], 0)

    def test_what_a_deed_gives_is_not_there_ahead_of_it(self):
        for count in (1, 2, 5, GREAT):
            self.assertEqual(walked(YARD, (4, 0), [(5, count)]), (4 + 5 * count, 0))
            self.refused(YARD, (3, 0), [(5, count)], 0)

    def test_as_gone_by_hand(self):
        for seed in range(800):
            yard = some_yard(seed, 4, 6)
            row = some_row(seed, 6, 7)
            stand = tuple(random.Random(seed).randint(0, 3 + seed % 10) for place in range(4))
            expected = steps(yard, stand, row)
            if type(expected) is int:
                self.refused(yard, stand, row, expected)
            else:
                self.assertEqual(walked(yard, stand, row), expected)
                self.assertEqual(walked(yard, stand, tuple(row)), expected)

    def test_nothing_handed_in_is_changed(self):
        row = [(0, 6), (1, 2)]
        stand = (0, 0)
        for ask in (lambda: walked(YARD, stand, row), lambda: load_of(YARD, row), lambda: pay_of(YARD, row),
                    lambda: change_of(YARD, row), lambda: need_of(YARD, row), lambda: is_row(YARD, row)):
            self.assertEqual(ask(), ask())
        self.assertEqual((row, stand), ([(0, 6), (1, 2)], (0, 0)))


class Counted(unittest.TestCase):
    """[2.2]: load, pay, change and need."""

    def test_of_nothing(self):
        self.assertEqual((load_of(YARD, []), pay_of(YARD, [])), (0, 0))
        self.assertEqual((change_of(YARD, []), need_of(YARD, [])), ((0, 0), (0, 0)))
        self.assertEqual((change_of((0, ()), ()), need_of((0, ()), ())), ((), ()))

    def test_load_and_pay(self):
        row = [(0, 6), (1, 2), (2, 10), (4, 1), (0, 1)]
        self.assertEqual(load_of(YARD, row), 10 + 20 + 999)
        self.assertEqual(pay_of(YARD, row), 7 + 30 + 999)
        self.assertEqual(load_of(YARD, tuple(row)), 1029)
        self.assertEqual((load_of(YARD, [(4, GREAT)]), pay_of(YARD, [(2, GREAT)])), (999 * GREAT, 3 * GREAT))

    def test_change(self):
        self.assertEqual(change_of(YARD, [(1, 2), (0, 1), (3, 1)]), (-5, 2))
        self.assertEqual(change_of(YARD, ((2, GREAT), (3, GREAT))), (0, -2 * GREAT))

    def test_need(self):
        self.assertEqual(need_of(YARD, [(1, 2)]), (6, 0))
        self.assertEqual(need_of(YARD, [(0, 5), (1, 2)]), (1, 0))
        self.assertEqual(need_of(YARD, [(0, 9), (1, 2)]), (0, 0))
        self.assertEqual(need_of(YARD, [(1, 2), (0, 9)]), (6, 0))
        self.assertEqual(need_of(YARD, [(2, GREAT)]), (0, 4))
        self.assertEqual(need_of(YARD, [(5, GREAT)]), (4, 0))
        self.assertEqual(need_of(YARD, [(0, 1), (5, 2), (1, 4)]), (3, 0))
        self.assertEqual(need_of(YARD, [(3, GREAT)]), (0, 5 + 2 * (GREAT - 1)))
        self.assertEqual(need_of(YARD, [(1, GREAT), (3, GREAT)]), (3 * GREAT, 3))

    def test_as_gone_by_hand(self):
        for seed in range(300):
            yard = some_yard(seed, 4, 6)
            row = some_row(seed, 6, 7)
            singles = [number for number, count in row for once in range(count)]
            self.assertEqual(load_of(yard, row), sum(yard[1][number][2] for number in singles))
            self.assertEqual(pay_of(yard, row), sum(yard[1][number][3] for number in singles))
            rich = (1000,) * 4
            behind = rich
            for number in singles:
                behind = step(yard, behind, number)
            self.assertEqual(change_of(yard, row), tuple(now - 1000 for now in behind))

    def test_need_is_least_at_every_place(self):
        for seed in range(300):
            yard = some_yard(seed, 4, 6)
            for row in (some_row(seed, 6, 7), [(number, count * GREAT + 1) for number, count in some_row(seed, 6, 5)]):
                need = need_of(yard, row)
                self.assertIs(type(need), tuple)
                walked(yard, need, row)
                if sum(count for number, count in row) < GREAT:
                    self.assertIsInstance(steps(yard, need, row), tuple)
                rich = tuple(count + 10 * GREAT for count in need)
                for place in range(4):
                    self.assertGreaterEqual(need[place], 0)
                    if need[place] > 0:
                        # Even with plenty at all other places one less here is not enough.
                        with self.assertRaises(NoDeed):
                            walked(yard, rich[:place] + (need[place] - 1,) + rich[place + 1:], row)

    def test_change_and_need_go_with_walking(self):
        for seed in range(200):
            yard = some_yard(seed, 5, 8)
            row = [(number, count * GREAT) for number, count in some_row(seed, 8, 9)]
            need = need_of(yard, row)
            behind = walked(yard, need, row)
            self.assertEqual(change_of(yard, row), tuple(now - then for now, then in zip(behind, need)))
            if need == empty(yard):
                self.assertEqual(walked(yard, empty(yard), row), change_of(yard, row))


if __name__ == "__main__":
    unittest.main()
