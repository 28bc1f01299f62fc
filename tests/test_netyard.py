import unittest

from helper import ABOVE, JUST, MANY, MORE, Plain, ask, net_of, some_net
from tryweir.errors import NoHouse, TooMany
from tryweir.netyard import places_of, yard_of
from tryweir.yards import is_yard

class Places(unittest.TestCase):
    """[9.1]: chains and purses."""

    def test_one_house(self):
        self.assertEqual(places_of(net_of(())), (((), 0),))

    def test_houses_that_are_never_asked(self):
        self.assertEqual(places_of(net_of((), (), ())), (((), 0),))
        # An ask that isn't sure counts wherever it stands.
        self.assertEqual(places_of(net_of((), (ask("c", sure=False),), ())), (((), 0), ((), 2)))
        self.assertEqual(places_of(net_of((), (ask("c"),), ())), (((), 0),))

    def test_one_behind_the_other(self):
        self.assertEqual(places_of(net_of((ask("b"),), ())), ((((0, 0, 1),), -1), (((0, 0, 1),), 1)))
        chain = net_of((ask("b"),), (ask("c"),), (ask("d"),), ())
        one, two, three = (0, 0, 1), (1, 0, 1), (2, 0, 1)
        self.assertEqual(places_of(chain), (((one,), -1), ((one, two), -1), ((one, two, three), -1), ((one, two, three), 3)))

    def test_tries(self):
        for tries in range(1, 5):
            found = [(((0, 0, tried),), at) for tried in range(1, tries + 1) for at in (-1, 1)]
            self.assertEqual(places_of(net_of((ask("b", tries),), ())), tuple(found))
        self.assertEqual(places_of(net_of((ask("b", 0),), ())), places_of(net_of((ask("b", 2),), ())))

    def test_several_asks(self):
        net = net_of((ask("c", 2), ask("b"), ask("c", 0)), (ask("c"),), ())
        steps = [(0, 0, 1), (0, 0, 2), (0, 1, 1), (0, 2, 1), (0, 2, 2)]
        found = [((step,), -1) for step in steps] + [((step,), 2) for step in steps if step[1] != 1]
        found += [(((0, 1, 1), (1, 0, 1)), -1), (((0, 1, 1), (1, 0, 1)), 2)]
        self.assertEqual(places_of(net), tuple(sorted(found)))

    def test_asks_that_are_not_sure(self):
        self.assertEqual(places_of(net_of((ask("b", sure=False),), ())), (((), 1), (((0, 0, 1),), -1), (((0, 0, 1),), 1)))
        for one, other, firsts in ((True, True, 0), (False, True, 2), (True, False, 1), (False, False, 3)):
            net = net_of((ask("b", sure=one),), (ask("c", sure=other),), ())
            self.assertEqual(len(places_of(net)), 3 + firsts)
            self.assertIs((((1, 0, 1),), -1) in places_of(net), not one)
            self.assertIs(((), 2) in places_of(net), not other)
        # Two such asks of one house: its chains are there once.
        self.assertEqual(places_of(net_of((ask("b", sure=False), ask("b", sure=False)), ())).count(((), 1)), 1)

    def test_purses_stand_behind(self):
        net = net_of((ask("b", 1, "q"),), (), purses=(("p", "any", 1), ("q", "first", 9)))
        self.assertEqual(places_of(net)[-4:], ((0, "shares"), (0, "coins"), (1, "shares"), (1, "coins")))
        self.assertEqual(len(places_of(net)), 6)
        self.assertEqual(places_of(net_of((), purses=(("q", "any", 1),))), (((), 0), (0, "shares"), (0, "coins")))

    def test_just_100_and_more(self):
        self.assertEqual(len(places_of(JUST)), 100)
        self.assertEqual(len(Plain(ABOVE).places), 101)
        full = net_of((ask("b", 4), ask("b", 4)), (ask("c", 4), ask("c", 4)), (ask("d", 4), ask("d", 4)), ())
        for net in (ABOVE, (JUST[0], (("p", "any", 1),)), full):
            with self.assertRaises(TooMany):
                places_of(net)
        # Purses count, too.
        self.assertEqual(len(Plain((JUST[0], (("p", "any", 1),))).places), 102)

    def test_of_places_alone(self):
        self.assertEqual(len(places_of(MORE)), 98)

    def test_as_the_words_have_it(self):
        for seed in range(400):
            net = some_net(seed)
            plain = Plain(net)
            if len(plain.places) > 100:
                with self.assertRaises(TooMany):
                    places_of(net)
            else:
                self.assertEqual(places_of(net), tuple(plain.places))
                self.assertEqual(places_of(net), places_of(net))


class Yards(unittest.TestCase):
    """[9.2]: deeds."""

    def test_one_house(self):
        self.assertEqual(yard_of(net_of(()), 0), (1, (((), ((0, 1),), 1, 1), (((0, 1),), (), 0, 0))))

    def test_a_house_that_is_never_asked_is_measured(self):
        self.assertEqual(yard_of(net_of((), ()), 1), (1, (((), ((0, 1),), 0, 1), (((0, 1),), (), 0, 0))))

    def test_a_sure_ask(self):
        # Places: stands and works at the first try, then at the second.
        net = net_of((ask("b", 2),), ())
        for house, first, second in ((0, 1, 0), (1, 1, 1)):
            self.assertEqual(yard_of(net, house), (4, (
                ((), ((1, 1),), first, 1),
                (((0, 1),), (), 0, 0), (((0, 1),), ((3, 1),), second, 0),
                (((1, 1),), (), 0, 0), (((1, 1),), ((0, 1),), 0, 0),
                (((2, 1),), (), 0, 0),
                (((3, 1),), (), 0, 0), (((3, 1),), ((2, 1),), 0, 0))))

    def test_one_try(self):
        self.assertEqual(yard_of(net_of((ask("b"),), ()), 1), (2, (
            ((), ((1, 1),), 1, 1), (((0, 1),), (), 0, 0), (((1, 1),), (), 0, 0), (((1, 1),), ((0, 1),), 0, 0))))

    def test_ever_again(self):
        # From the second try on each one leads to where it came from.
        self.assertEqual(yard_of(net_of((ask("b", 0),), ()), 1), (4, (
            ((), ((1, 1),), 1, 1),
            (((0, 1),), (), 0, 0), (((0, 1),), ((3, 1),), 1, 0),
            (((1, 1),), (), 0, 0), (((1, 1),), ((0, 1),), 0, 0),
            (((2, 1),), (), 0, 0), (((2, 1),), ((3, 1),), 1, 0),
            (((3, 1),), (), 0, 0), (((3, 1),), ((2, 1),), 0, 0))))

    def test_lost_gives_two(self):
        # Places: works by itself, stands, works.
        self.assertEqual(yard_of(net_of((ask("b", sure=False),), ()), 1), (3, (
            ((), ((2, 1),), 1, 1),
            (((0, 1),), (), 0, 0),
            (((1, 1),), (), 0, 0),
            (((2, 1),), (), 0, 0), (((2, 1),), ((0, 1), (1, 1)), 0, 0), (((2, 1),), ((1, 1),), 0, 0))))

    def test_what_goes_on_below_what_was_lost(self):
        net = net_of((ask("b", sure=False),), (ask("c", sure=True),), ())
        places, yard = places_of(net), yard_of(net, 2)
        whole, above, cut = (((0, 0, 1), (1, 0, 1)), 2), (((0, 0, 1),), -1), (((1, 0, 1),), 2)
        side = tuple(sorted((places.index(place), 1) for place in (above, cut)))
        self.assertIn((((places.index(whole), 1),), side, 0, 0), yard[1])
        # A sure ask's errand can't be lost.
        self.assertNotIn(((), 2), places)

    def test_lost_in_the_midst_and_where_one_stands(self):
        net = net_of((ask("b", 2, sure=False),), (ask("c", 2, sure=False),), ())
        places, yard = places_of(net), yard_of(net, 2)
        for end in (-1, 2):
            whole = (((0, 0, 2), (1, 0, 2)), end)
            for given in ([(((0, 0, 2),), -1), (((1, 0, 2),), end)], [(((0, 0, 2), (1, 0, 2)), -1), ((), 2)]):
                side = tuple(sorted((places.index(place), 1) for place in given if place in places))
                # The last one stands: no errand is below it that could be lost.
                self.assertIs((((places.index(whole), 1),), side, 0, 0) in yard[1], end == 2 or given[1][1] == -1)

    def test_lost_gives_two_unlike_places(self):
        # Houses rise down a chain: so what is above and what is cut off are never at one place.
        for seed in range(300):
            plain = Plain(some_net(seed))
            if len(plain.places) <= 100:
                for chain in plain.chains:
                    for event, coin, chains, shares, begun in plain.events(chain):
                        self.assertEqual(len(chains), len(set(chains)))

    def test_with_a_coin(self):
        net = net_of((ask("b", 2, "p"),), (), purses=(("p", "first", 3),))
        self.assertEqual(yard_of(net, 1), (6, (
            ((), ((1, 1), (4, 1)), 1, 1),
            (((0, 1),), (), 0, 0), (((0, 1), (5, 1)), ((3, 1),), 1, 0),
            (((1, 1),), (), 0, 0), (((1, 1),), ((0, 1),), 0, 0),
            (((2, 1),), (), 0, 0),
            (((3, 1),), (), 0, 0), (((3, 1),), ((2, 1),), 0, 0),
            (((4, 3),), ((5, 1),), 0, 0))))

    def test_purses_that_earn_any(self):
        for earns, given in (("first", ((3, 1),)), ("any", ((3, 1), (4, 1)))):
            net = net_of((ask("b", 0, "p"),), (), purses=(("p", earns, 1),))
            deeds = yard_of(net, 0)[1]
            self.assertIn((((0, 1), (5, 1)), given, 0, 0), deeds)
            self.assertIn((((2, 1), (5, 1)), given, 0, 0), deeds)
            self.assertIn((((4, 1),), ((5, 1),), 0, 0), deeds)

    def test_several_shares_of_one_event(self):
        net = net_of((ask("b", 1, "q"),), (ask("c", 1, "p"),), (ask("d", 1, "q"),), (),
                     purses=(("p", "first", 2), ("q", "any", 9)))
        self.assertEqual(yard_of(net, 3)[1][0], ((), ((3, 1), (4, 1), (6, 2)), 1, 1))
        self.assertIn((((4, 2),), ((5, 1),), 0, 0), yard_of(net, 3)[1])
        self.assertIn((((6, 9),), ((7, 1),), 0, 0), yard_of(net, 3)[1])

    def test_purses_that_no_ask_has(self):
        net = net_of((), purses=(("p", "first", 2), ("q", "any", 9)))
        self.assertEqual(yard_of(net, 0), (5, (((), ((0, 1),), 1, 1), (((0, 1),), (), 0, 0), (((1, 2),), ((2, 1),), 0, 0),
                                               (((3, 9),), ((4, 1),), 0, 0))))

    def test_the_next_ask(self):
        net = net_of((ask("b"), ask("c")), (ask("c"),), ())
        places = places_of(net)
        works, behind = places.index((((0, 0, 1), (1, 0, 1)), 2)), places.index((((0, 1, 1),), 2))
        for house, load in enumerate((0, 0, 1)):
            self.assertIn((((works, 1),), ((behind, 1),), load, 0), yard_of(net, house)[1])

    def test_words_and_hearing(self):
        for word in ("bad", "spent"):
            for hears in (True, False):
                net = net_of((ask("b", hears=hears),), (ask("c", word=word),), ())
                places = places_of(net)
                below, above = places.index((((0, 0, 1), (1, 0, 1)), -1)), places.index((((0, 0, 1),), -1))
                ends = word == "spent" and hears
                self.assertIs((((below, 1),), (), 0, 0) in yard_of(net, 0)[1], ends)
                self.assertIs((((below, 1),), ((above, 1),), 0, 0) in yard_of(net, 0)[1], not ends)

    def test_as_the_words_have_it(self):
        found = 0
        for seed in range(400):
            net = some_net(seed)
            plain = Plain(net)
            for house in range(len(net[0])):
                wanted = plain.yard(house) if len(plain.places) <= 100 else (101, ())
                if len(plain.places) > 100 or len(wanted[1]) > 400:
                    with self.assertRaises(TooMany):
                        yard_of(net, house)
                    continue
                found += 1
                self.assertEqual(yard_of(net, house), wanted)
                self.assertIs(is_yard(yard_of(net, house)), True)
        self.assertGreater(found, 600)

    def test_just_so_many_and_more(self):
        for house in range(4):
            self.assertEqual(len(yard_of(JUST, house)[1]), len(Plain(JUST).yard(house)[1]))
            self.assertEqual(yard_of(JUST, house)[0], 100)
            self.assertEqual([yard_of(MANY, house)[0], len(yard_of(MANY, house)[1])], [99, 400])
            self.assertEqual(len(Plain(MORE).yard(house)[1]), 401)
            for net in (MORE, ABOVE):
                with self.assertRaises(TooMany):
                    yard_of(net, house)

    def test_no_house_ahead_of_too_many(self):
        for net in (JUST, ABOVE, MORE):
            for house in (-1, -4, 4, 5, 10 ** 60):
                with self.assertRaises(NoHouse):
                    yard_of(net, house)


if __name__ == "__main__":
    unittest.main()
