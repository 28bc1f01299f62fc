import unittest
from fractions import Fraction

from helper import ABOVE, MANY, MORE, Plain, ask, counted, net_of, paper_fault, ring_fault, some_net
from tryweir.errors import NoAsk, NoHouse, NoPurse, TooMany
from tryweir.images import net_toll
from tryweir.limits import least_per, most_tries


def with_tries(net, at, number, tries):
    houses = [list(house) for house in net[0]]
    asks = [list(one) for one in houses[at][1]]
    asks[number][1] = tries
    houses[at][1] = tuple(tuple(one) for one in asks)
    return tuple(tuple(house) for house in houses), net[1]


def with_per(net, number, per):
    return net[0], tuple((name, earns, per if at == number else own) for at, (name, earns, own) in enumerate(net[1]))


def toll_of(net, house):
    """The toll as a fraction, or None where the net swells."""
    told = net_toll(net, house)
    return Fraction(*told[1][0]) if told[0] == "toll" else None


class Limits(unittest.TestCase):
    def holds(self, net, house, paper, limit):
        yard = Plain(net).yard(house)
        self.assertIsNone(paper_fault(yard, paper, [deed[2] for deed in yard[1]]))
        self.assertLessEqual(Fraction(*paper[0]), limit)

    def shows_more(self, net, house, ring, limit):
        yard = Plain(net).yard(house)
        self.assertIsNone(ring_fault(yard, ring))
        load, pay, change = counted(yard, ring[1])
        self.assertGreater(load, limit * pay)

    def checked(self, told, word, nets, house, limit):
        """Checks what is told of nets, in the order in which their tolls rise, and tells how many keep to the limit."""
        self.assertIs(type(told), tuple)
        limit = Fraction(*limit)
        if told[0] == "none":
            self.assertEqual(len(told), 2)
            self.shows_more(nets[0][1], house, told[1], limit)
            return None
        self.assertEqual((told[0], len(told)), (word, 4))
        self.assertIs(type(told[1]), int)
        at = [number for number, net in nets].index(told[1])
        self.holds(nets[at][1], house, told[2], limit)
        if at + 1 == len(nets):
            self.assertIsNone(told[3])
        else:
            self.shows_more(nets[at + 1][1], house, told[3], limit)
        return told[1]

    def most(self, net, house, at, number, limit):
        nets = [(tries, with_tries(net, at, number, tries)) for tries in range(1, 5)]
        return self.checked(most_tries(net, house, at, number, limit), "most", nets, house, limit)

    def least(self, net, house, number, limit):
        nets = [(per, with_per(net, number, per)) for per in range(9, 0, -1)]
        return self.checked(least_per(net, house, number, limit), "least", nets, house, limit)


class Most(Limits):
    """[12.1]: the most tries."""

    def test_below_at_and_above(self):
        for own in range(1, 5):
            net = net_of((ask("b", own),), ())
            for limit, most in (((0, 1), None), ((99, 100), None), ((1, 1), 1), ((3, 2), 1), ((2, 1), 2), ((299, 100), 2), ((3, 1), 3),
                                ((7, 2), 3), ((4, 1), 4), ((9, 2), 4), ((10 ** 60, 1), 4)):
                self.assertEqual(self.most(net, 1, 0, 0, limit), most)

    def test_along_a_chain(self):
        net = net_of((ask("b", 2),), (ask("c", 3),), ())
        for limit, above, beneath in ((2, None, 1), (3, 1, 1), (5, 1, 2), (6, 2, 3), (8, 2, 4), (9, 3, 4), (12, 4, 4)):
            self.assertEqual(self.most(net, 2, 0, 0, (limit, 1)), above)
            self.assertEqual(self.most(net, 2, 1, 0, (limit, 1)), beneath)

    def test_which_house_is_measured(self):
        net = net_of((ask("b", 4),), (ask("c", 3),), ())
        self.assertEqual(self.most(net, 0, 0, 0, (1, 1)), 4)
        self.assertIsNone(self.most(net, 0, 0, 0, (1, 2)))
        # What b asks changes nothing at b.
        self.assertEqual(self.most(net, 1, 1, 0, (4, 1)), 4)
        self.assertIsNone(self.most(net, 1, 1, 0, (3, 1)))

    def test_which_ask(self):
        net = net_of((ask("b", 2), ask("c", 4), ask("b", 1)), (), ())
        self.assertEqual(self.most(net, 1, 0, 0, (4, 1)), 3)
        self.assertEqual(self.most(net, 1, 0, 2, (4, 1)), 2)
        self.assertEqual(self.most(net, 1, 0, 1, (4, 1)), 4)
        self.assertIsNone(self.most(net, 1, 0, 1, (2, 1)))

    def test_a_house_that_nothing_comes_to(self):
        net = net_of((ask("b", 2),), (), ())
        self.assertEqual(most_tries(net, 2, 0, 0, (0, 1))[:2], ("most", 4))
        self.assertEqual(self.most(net, 2, 0, 0, (0, 1)), 4)

    def test_what_swells_whatever_the_tries(self):
        net = net_of((ask("b", 0), ask("b", 2)), ())
        self.assertIsNone(self.most(net, 1, 0, 1, (10 ** 60, 1)))
        told = most_tries(net, 1, 0, 1, (5, 1))
        self.assertEqual(told[0], "none")
        load, pay, change = counted(Plain(with_tries(net, 0, 1, 1)).yard(1), told[1][1])
        self.assertEqual(pay, 0)

    def test_what_swells_from_some_tries_on(self):
        # Each try of b's ask puts a share, beneath it: three of them pay for the next try at the top, for ever.
        net = net_of((ask("b", 0, "p"),), (ask("c", 1),), (ask("d", 1, "p"),), (), purses=(("p", "first", 3),))
        self.assertEqual(self.most(net, 3, 1, 0, (10 ** 60, 1)), 2)
        told = most_tries(net, 3, 1, 0, (10 ** 60, 1))
        load, pay, change = counted(Plain(with_tries(net, 1, 0, 3)).yard(3), told[3][1])
        self.assertEqual((load > 0, pay), (True, 0))

    def test_refused_in_order(self):
        net = net_of((ask("b", 2), ask("c", 0)), (ask("c", 3),), ())
        for number in (-1, 3, 10 ** 60):
            for other in (0, -1, 2, 9):
                self.assertRaises(NoHouse, most_tries, net, number, 0, other, (1, 1))
                self.assertRaises(NoHouse, most_tries, net, 0, number, other, (1, 1))
        for at, number in ((0, -1), (0, 1), (0, 2), (0, 10 ** 60), (1, 1), (1, -1), (2, 0), (2, -1)):
            self.assertRaises(NoAsk, most_tries, net, 0, at, number, (1, 1))
        for great in (ABOVE, MORE):
            for number in (-1, 4):
                self.assertRaises(NoHouse, most_tries, great, number, 0, 0, (1, 1))
                self.assertRaises(NoHouse, most_tries, great, 0, number, 0, (1, 1))
            self.assertRaises(NoAsk, most_tries, great, 0, 3, 0, (1, 1))
        self.assertRaises(NoAsk, most_tries, MORE, 0, 0, 0, (1, 1))
        self.assertRaises(TooMany, most_tries, ABOVE, 0, 0, 0, (1, 1))
        self.assertRaises(TooMany, most_tries, MORE, 0, 1, 0, (1, 1))

    def test_too_many_of_the_yard_with_4_tries(self):
        # The net itself has a yard, but not with four tries of this ask.
        self.assertEqual(len(Plain(MANY).yard(0)[1]), 400)
        for limit in ((0, 1), (1, 1), (10 ** 9, 1)):
            self.assertRaises(TooMany, most_tries, MANY, 0, 0, 0, limit)

    def test_by_chance(self):
        found = []
        for seed in range(200):
            net = some_net(seed)
            for at, (name, asks) in enumerate(net[0]):
                for number, one in enumerate(asks):
                    if one[1] == 0 or (seed + at + number) % 2:
                        continue
                    house = max("abcd".index(one[0]), seed % len(net[0]))
                    most = Plain(with_tries(net, at, number, 4))
                    if len(most.places) > 100 or len(most.yard(house)[1]) > 400:
                        self.assertRaises(TooMany, most_tries, net, house, at, number, (1, 1))
                    elif len(most.places) <= 60:
                        # A limit that some count of tries just keeps to.
                        limit = toll_of(with_tries(net, at, number, 1 + seed % 4), house)
                        limit = (9, 1) if limit is None else (limit.numerator, limit.denominator)
                        found.append(self.most(net, house, at, number, limit))
        for number in (None, 1, 2, 3, 4):
            self.assertIn(number, found)
        self.assertGreater(len(found), 60)

    def test_tolls_never_fall_as_tries_grow(self):
        for seed in range(60):
            net = some_net(seed)
            for at, (name, asks) in enumerate(net[0]):
                for number, one in enumerate(asks[:1]):
                    if len(Plain(with_tries(net, at, number, 4)).places) <= 50:
                        tolls = [toll_of(with_tries(net, at, number, tries), len(net[0]) - 1) for tries in (1, 2, 3, 4, 0)]
                        known = [one for one in tolls if one is not None]
                        self.assertEqual(known + [None] * (5 - len(known)), tolls)
                        self.assertEqual(known, sorted(known))


class Least(Limits):
    """[12.1]: the least per."""

    def test_first(self):
        # The toll is 1 and 1 by per.
        net = net_of((ask("b", 0, "p"),), (), purses=(("p", "first", 4),))
        for limit, per in (((2, 1), 1), ((3, 1), 1), ((199, 100), 2), ((3, 2), 2), ((4, 3), 3), ((5, 4), 4), ((9, 8), 8), ((10, 9), 9),
                           ((11, 10), None), ((1, 1), None), ((0, 1), None)):
            self.assertEqual(self.least(net, 1, 0, limit), per)

    def test_any(self):
        # The toll is per by per less 1; with 1 it swells.
        net = net_of((ask("b", 0, "p"),), (), purses=(("p", "any", 1),))
        for limit, per in (((10 ** 60, 1), 2), ((2, 1), 2), ((3, 2), 3), ((9, 8), 9), ((8, 7), 8), ((10, 9), None)):
            self.assertEqual(self.least(net, 1, 0, limit), per)

    def test_which_purse(self):
        net = net_of((ask("b", 0, "p"), ask("c", 0, "q")), (), (), purses=(("p", "first", 9), ("q", "first", 9)))
        self.assertEqual(self.least(net, 1, 0, (3, 2)), 2)
        self.assertEqual(self.least(net, 1, 1, (3, 2)), 1)
        self.assertEqual(self.least(net, 2, 1, (3, 2)), 2)
        self.assertIsNone(self.least(net, 2, 0, (11, 10)))

    def test_a_purse_that_no_ask_has(self):
        net = net_of((ask("b", 2),), (), purses=(("p", "any", 5),))
        self.assertEqual(self.least(net, 1, 0, (2, 1)), 1)
        self.assertIsNone(self.least(net, 1, 0, (1, 1)))

    def test_what_swells_whatever_per(self):
        net = net_of((ask("b", 0), ask("b", 0, "p")), (), purses=(("p", "any", 5),))
        self.assertIsNone(self.least(net, 1, 0, (10 ** 60, 1)))

    def test_refused_in_order(self):
        net = net_of((ask("b", 2, "p"),), (), purses=(("p", "any", 5),))
        for number in (-1, 2, 10 ** 60):
            for purse in (0, -1, 1):
                self.assertRaises(NoHouse, least_per, net, number, purse, (1, 1))
        for purse in (-1, 1, 2, 10 ** 60):
            self.assertRaises(NoPurse, least_per, net, 0, purse, (1, 1))
        self.assertRaises(NoPurse, least_per, net_of(()), 0, 0, (1, 1))
        for great in (ABOVE, MORE):
            self.assertRaises(NoHouse, least_per, great, 4, 0, (1, 1))
            self.assertRaises(NoPurse, least_per, great, 0, 0, (1, 1))
            self.assertRaises(TooMany, least_per, (great[0], (("p", "any", 5),)), 0, 0, (1, 1))

    def test_by_chance(self):
        found = []
        for seed in range(300):
            net = some_net(seed)
            if net[1] and len(Plain(net).places) <= 40:
                limit = ((1, 1), (4, 3), (3, 2), (2, 1), (3, 1), (5, 1))[seed % 6]
                found.append(self.least(net, len(net[0]) - 1, seed % len(net[1]), limit))
        for number in (None, 1, 2):
            self.assertIn(number, found)
        self.assertGreater(len(found), 50)

    def test_tolls_never_grow_with_per(self):
        for seed in range(80):
            net = some_net(seed)
            if net[1] and len(Plain(net).places) <= 30:
                tolls = [toll_of(with_per(net, 0, per), len(net[0]) - 1) for per in range(9, 0, -1)]
                known = [one for one in tolls if one is not None]
                self.assertEqual(known + [None] * (9 - len(known)), tolls)
                self.assertEqual(known, sorted(known))

    def test_the_same_question_has_the_same_answer(self):
        net = net_of((ask("b", 3, "p"),), (), purses=(("p", "first", 4),))
        for call, handed in ((least_per, (net, 1, 0, (5, 4))), (most_tries, (net, 1, 0, 0, (5, 4)))):
            first, told = call(*handed), call(*handed)
            self.assertEqual(first, told)
            for row in first[-1] or ():
                row.clear()
            self.assertEqual(call(*handed), told)


if __name__ == "__main__":
    unittest.main()
