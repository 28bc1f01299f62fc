import copy
import random
import unittest
from fractions import Fraction

from helper import (ABOVE, FRESH, JUST, MANY, MORE, STRANGE, Plain, ask, behind, counted, is_plain_ratio, net_of, paper_fault,
                    ring_fault, some_net, some_run, stand_behind)
from tryweir.errors import NoEvent, NoHouse, TooMany
from tryweir.images import acted, image, net_toll, owed
from tryweir.netyard import places_of, yard_of
from tryweir.runs import ran, run_load, run_pay
from tryweir.tolls import near, toll


def small_nets(count, most=100):
    """Nets by chance whose yard is there, with it, for each a measured house."""
    for seed in range(count):
        net = some_net(seed)
        plain = Plain(net)
        if len(plain.places) <= most:
            house = seed % len(net[0])
            yard = plain.yard(house)
            if len(yard[1]) <= 400:
                yield seed, net, house, yard


def lost_of(world):
    return [number for number, errand in enumerate(world.errands) if errand["lost"]]


class Refusals(unittest.TestCase):
    """The opening words: NoHouse, TooMany, NoEvent, in this order."""

    NET = net_of((ask("b", 2, sure=False),), ())
    PAPER = ((0, 1), ((1, 1),) * 5, ())

    def calls(self, net, house, events):
        yield lambda: image(net, house, events)
        yield lambda: owed(net, house, self.PAPER, events)
        yield lambda: acted(net, house, [])
        yield lambda: net_toll(net, house)

    def test_no_house(self):
        for net in (self.NET, ABOVE, MORE):
            for house in (-1, -2, 4, 10 ** 60):
                for events in ([], [("up", 0)]):
                    for call in self.calls(net, house, events):
                        self.assertRaises(NoHouse, call)
        self.assertRaises(NoHouse, image, self.NET, 2, [])

    def test_too_many(self):
        for net in (ABOVE, MORE):
            for events in ([], [FRESH], [("up", 0)]):
                for call in self.calls(net, 3, events):
                    self.assertRaises(TooMany, call)

    def test_no_event(self):
        for at, events in ((0, [("up", 0)]), (1, [FRESH, ("lost", 0), FRESH]), (3, [FRESH, ("lost", 1), ("again", 0), ("again", 0)])):
            for call in list(self.calls(self.NET, 0, events))[:2]:
                with self.assertRaises(NoEvent) as caught:
                    call()
                self.assertEqual(caught.exception.at, at)
        for thing in STRANGE:
            for call in list(self.calls(self.NET, 0, [FRESH, thing]))[:2]:
                with self.assertRaises(NoEvent) as caught:
                    call()
                self.assertEqual(caught.exception.at, 1)


class Images(unittest.TestCase):
    """[9.3]: runs as rows."""

    def numbers(self, net, house, *deeds):
        return [yard_of(net, house)[1].index(deed) for deed in deeds]

    def test_no_events(self):
        for net in (net_of(()), JUST, net_of((), purses=(("p", "any", 1),))):
            self.assertEqual(image(net, 0, []), [])
            self.assertEqual(image(net, 0, ()), [])

    def test_each_kind_of_event(self):
        # Places: 0 works alone; 1 stands, 2 works at the first try; 3 stands, 4 works at the second.
        net = net_of((ask("b", 2, sure=False),), ())
        fresh, lost, again, bad, up, well = self.numbers(
            net, 1, ((), ((2, 1),), 1, 1), (((2, 1),), ((0, 1), (1, 1)), 0, 0), (((1, 1),), ((4, 1),), 1, 0),
            (((4, 1),), ((3, 1),), 0, 0), (((3, 1),), (), 0, 0), (((0, 1),), (), 0, 0))
        events = [FRESH, ("lost", 1), ("again", 0), ("ends", 2, "bad"), ("up", 0), ("ends", 1, "well")]
        self.assertEqual(image(net, 1, events), [(fresh, 1), (lost, 1), (again, 1), (bad, 1), (up, 1), (well, 1)])

    def test_ever_again(self):
        net = net_of((ask("b", 0),), ())
        fresh, bad, again, bad_again, once_more = self.numbers(
            net, 1, ((), ((1, 1),), 1, 1), (((1, 1),), ((0, 1),), 0, 0), (((0, 1),), ((3, 1),), 1, 0),
            (((3, 1),), ((2, 1),), 0, 0), (((2, 1),), ((3, 1),), 1, 0))
        events = [FRESH, ("ends", 1, "bad"), ("again", 0)]
        wanted = [(fresh, 1), (bad, 1), (again, 1)]
        for tried in range(2, 40):
            events += [("ends", tried, "bad"), ("again", 0)]
            wanted += [(bad_again, 1), (once_more, 1)]
        self.assertEqual(image(net, 1, events), wanted)

    def test_a_coin_in_one_purse(self):
        net = net_of((ask("b", 2, "p"),), (), purses=(("p", "first", 2),))
        fresh, coin, bad, again = self.numbers(net, 1, ((), ((1, 1), (4, 1)), 1, 1), (((4, 2),), ((5, 1),), 0, 0),
                                               (((1, 1),), ((0, 1),), 0, 0), (((0, 1), (5, 1)), ((3, 1),), 1, 0))
        self.assertEqual(image(net, 1, [FRESH, FRESH, ("ends", 1, "bad"), ("again", 0)]),
                         [(fresh, 1), (fresh, 1), (coin, 1), (bad, 1), (again, 1)])

    def test_coins_in_two_purses(self):
        # The second purse gets its share first; their deeds stand in the order of the purses, one for each coin.
        net = net_of((ask("b", 2, "q"),), (ask("c", 2, "p"),), (ask("d", 1, "q"),), (), purses=(("p", "any", 1), ("q", "any", 1)))
        places = places_of(net)
        shares = [places.index((purse, "shares")) for purse in (0, 1)]
        coins = [(((place, 1),), ((place + 1, 1),), 0, 0) for place in shares]
        first, second = self.numbers(net, 0, *coins)
        found = image(net, 0, [FRESH, ("ends", 3, "bad"), ("up", 2), ("again", 1)])
        self.assertEqual(found[1:4], [(first, 1), (second, 1), (second, 1)])
        self.assertEqual(found[-2:], [(first, 1), (second, 1)])
        self.assertEqual(len(found), 9)

    def test_where_a_run_leads(self):
        kinds = set()
        for seed, net, house, yard in small_nets(250):
            for time, fresh in enumerate((0.1, 0.5)):
                events, world = some_run(net, seed + time, 50, fresh)
                kinds |= {event[0] for event in events}
                row = image(net, house, events)
                self.assertEqual(row, image(net, house, tuple(events)))
                self.assertTrue(all(times == 1 for number, times in row))
                self.assertEqual(behind(yard, (0,) * yard[0], row), stand_behind(net, world.told(), lost_of(world)))
                load, pay, change = counted(yard, row)
                self.assertEqual((load, pay), (run_load(net, events, house), run_pay(events)))
                made = [number for number, deed in enumerate(yard[1]) if self.is_coin(net, yard, deed)]
                self.assertEqual(len([number for number, times in row if number not in made]), len(events))
        self.assertEqual(kinds, {"fresh", "ends", "lost", "again", "up"})

    def is_coin(self, net, yard, deed):
        return bool(deed[0]) and deed[0][0][0] >= yard[0] - 2 * len(net[1])

    def test_event_by_event(self):
        # Behind each event, its deed and the coins that it made are there, and nothing else.
        for seed, net, house, yard in small_nets(60):
            events, world = some_run(net, seed, 25)
            rows = [image(net, house, events[:count]) for count in range(len(events) + 1)]
            for before, after in zip(rows, rows[1:]):
                self.assertEqual(after[:len(before)], before)
                made = [number for number, times in after[len(before) + 1:]]
                self.assertFalse(self.is_coin(net, yard, yard[1][after[len(before)][0]]))
                self.assertTrue(all(self.is_coin(net, yard, yard[1][number]) for number in made))
                # The higher a purse's places, the later its deed is in the sorted yard.
                self.assertEqual(made, sorted(made))

    def test_2000_events(self):
        net = net_of((ask("b", 0, "p", sure=False),), (ask("c", 3),), (), purses=(("p", "any", 2),))
        events, world = some_run(net, 1, 2000)
        row = image(net, 2, events)
        yard = yard_of(net, 2)
        self.assertEqual(behind(yard, (0,) * yard[0], row), stand_behind(net, world.told(), lost_of(world)))

    def test_each_list_told_is_a_new_one(self):
        net = net_of((ask("b", 2, "p"),), (), purses=(("p", "first", 1),))
        events = [FRESH, ("ends", 1, "bad"), ("again", 0)]
        kept = copy.deepcopy(events)
        first = image(net, 0, events)
        told = list(first)
        first.clear()
        self.assertEqual(image(net, 0, events), told)
        self.assertEqual(events, kept)


class Acted(unittest.TestCase):
    """[9.3]: rows as runs."""

    def check(self, net, house, yard, row):
        """The row as a run: its image does the same deeds, coins' aside, in the same order."""
        events = acted(net, house, row)
        self.assertIs(type(events), list)
        found = image(net, house, events)
        coins = [number for number, deed in enumerate(yard[1])
                 if deed[0] and deed[0][0][0] >= yard[0] - 2 * len(net[1])]
        deeds = [number for number, times in row for time in range(times) if number not in coins]
        self.assertEqual([number for number, times in found if number not in coins], deeds)
        self.assertEqual(counted(yard, found)[:2], counted(yard, row)[:2])
        self.assertEqual((run_load(net, events, house), run_pay(events)), counted(yard, row)[:2])
        # Places but those of purses have just the same.
        chains = yard[0] - 2 * len(net[1])
        self.assertEqual(behind(yard, (0,) * yard[0], found)[:chains], behind(yard, (0,) * yard[0], row)[:chains])
        return events

    def test_the_empty_row(self):
        for net in (net_of(()), JUST, MANY, net_of((), purses=(("p", "any", 1),))):
            self.assertEqual(acted(net, 0, []), [])
            self.assertEqual(acted(net, 0, ()), [])

    def test_by_hand(self):
        net = net_of((ask("b", 2, sure=False),), ())
        events = [FRESH, ("lost", 1), ("again", 0), ("ends", 2, "bad"), ("up", 0)]
        self.assertEqual(acted(net, 0, image(net, 0, events)), events)
        # Of two alike either may be taken.
        row = image(net, 0, [FRESH, FRESH, ("lost", 1)])
        self.assertIn(acted(net, 0, [(row[0][0], 2), row[2]]), ([FRESH, FRESH, ("lost", 1)], [FRESH, FRESH, ("lost", 3)]))

    def test_words_that_lead_to_the_same(self):
        # A worker alone ends with any word: it is one deed.
        events = acted(net_of(()), 0, [(0, 3), (1, 2)])
        self.assertEqual(events[:3], [FRESH] * 3)
        self.assertEqual(sorted(state[0] for house, caller, state in ran(net_of(()), events)[0]), ["ended", "ended", "works"])

    def test_images(self):
        for seed, net, house, yard in small_nets(250):
            events, world = some_run(net, seed, 50)
            row = image(net, house, events)
            found = self.check(net, house, yard, row)
            self.assertEqual(image(net, house, found), row)
            self.assertEqual(acted(net, house, row), found)
            self.assertEqual(acted(net, house, tuple(row)), found)

    def test_coins_that_stand_later(self):
        for seed, net, house, yard in small_nets(250):
            if net[1]:
                # A coin is made at the latest time: just ahead of the deed that takes one.
                row = self.late(net, yard, image(net, house, some_run(net, seed, 50)[0]))
                self.assertIsNotNone(behind(yard, (0,) * yard[0], row))
                self.check(net, house, yard, row)

    def late(self, net, yard, row):
        chains = yard[0] - 2 * len(net[1])
        late, made = [], {}
        for number, times in row:
            takes = [place for place, count in yard[1][number][0]]
            if takes and takes[0] >= chains:
                made.setdefault(yard[1][number][1][0][0], []).append(number)
                continue
            for place in takes:
                if place >= chains:
                    late.append((made[place].pop(), 1))
            late.append((number, times))
        return late

    def test_coins_that_are_never_made(self):
        net = net_of((ask("b", 2, "p"),), (), purses=(("p", "first", 1),))
        yard = yard_of(net, 1)
        fresh = yard[1].index(((), ((1, 1), (4, 1)), 1, 1))
        self.assertEqual(acted(net, 1, [(fresh, 5)]), [FRESH] * 5)
        coin = yard[1].index((((4, 1),), ((5, 1),), 0, 0))
        self.assertEqual(acted(net, 1, [(fresh, 5), (coin, 5)]), [FRESH] * 5)

    def test_walks_by_chance(self):
        for seed, net, house, yard in small_nets(250):
            chance = random.Random(seed)
            stand, row = (0,) * yard[0], []
            for time in range(40):
                number, times = chance.randrange(len(yard[1])), chance.randint(1, 3)
                after = behind(yard, stand, [(number, times)])
                if time % 6 == 0 or after is None:
                    number = [at for at, deed in enumerate(yard[1]) if deed[3]][0]
                    after = behind(yard, stand, [(number, times)])
                stand = after
                row.append((number, times))
            self.check(net, house, yard, row)

    def test_rings_that_toll_tells(self):
        count = 0
        for seed, net, house, yard in small_nets(200, 60):
            told = net_toll(net, house)
            for rounds in (1, 2, 5):
                row = told[-1][0] + told[-1][1] * rounds
                if sum(times for number, times in row) <= 2000:
                    self.check(net, house, yard, row)
                    count += 1
        self.assertGreater(count, 300)

    def test_2000_deeds(self):
        net = net_of((ask("b", 0, "p", sure=False),), (ask("c", 3),), (), purses=(("p", "any", 2),))
        events, world = some_run(net, 2, 2000)
        self.check(net, 2, yard_of(net, 2), image(net, 2, events))


class Tolls(unittest.TestCase):
    """[9.4], [0.4]: tolls of nets."""

    def toll_at(self, net, house):
        told = net_toll(net, house)
        return told[1][0] if told[0] == "toll" else told[0]

    def test_what_toll_tells_of_the_yard(self):
        for seed, net, house, yard in small_nets(150, 60):
            told = net_toll(net, house)
            self.assertEqual(told, toll(yard_of(net, house)))
            self.assertIsNone(ring_fault(yard, told[-1]))
            if told[0] == "toll":
                self.assertIsNone(paper_fault(yard, told[1], [deed[2] for deed in yard[1]]))
                load, pay, change = counted(yard, told[2][1])
                self.assertEqual(load * told[1][0][1], pay * told[1][0][0])
            else:
                load, pay, change = counted(yard, told[1][1])
                self.assertEqual((load > 0, pay), (True, 0))

    def test_one_house(self):
        self.assertEqual(self.toll_at(net_of(()), 0), (1, 1))
        self.assertEqual(self.toll_at(net_of((), ()), 1), (0, 1))

    def test_tries_multiply(self):
        for one in range(1, 5):
            for other in range(1, 5):
                net = net_of((ask("b", one),), (ask("c", other),), ())
                self.assertEqual([self.toll_at(net, house) for house in range(3)], [(1, 1), (one, 1), (one * other, 1)])
        self.assertEqual(self.toll_at(net_of((ask("b", 3),), (ask("c", 2),), (ask("d", 4),), ()), 3), (24, 1))

    def test_tries_of_several_asks_add_up(self):
        # A try that came out well begins the next ask: each of both is tried as often as it may.
        self.assertEqual(self.toll_at(net_of((ask("b", 3), ask("b", 2)), ()), 1), (5, 1))

    def test_spent_stops_tries_above(self):
        # Where b goes up spent, and a hears it, b is never asked again: it can't end badly.
        for word, hears, least in (("spent", True, 3), ("bad", True, 6), ("spent", False, 6)):
            net = net_of((ask("b", 2, hears=hears),), (ask("c", 3, word=word),), ())
            self.assertEqual(self.toll_at(net, 2), (least, 1))

    def test_lossy_asks_are_tried_where_answers_are_lost(self):
        net = net_of((ask("b", 2, sure=False),), (ask("c", 3, word="spent"),), ())
        self.assertEqual(self.toll_at(net, 2), (6, 1))

    def test_ever_without_a_purse_swells(self):
        self.assertEqual(self.toll_at(net_of((ask("b", 0),), ()), 1), "swells")
        self.assertEqual(self.toll_at(net_of((ask("b", 0),), ()), 0), (1, 1))
        self.assertEqual(self.toll_at(net_of((ask("b", 2),), (ask("c", 0),), ()), 2), "swells")
        self.assertEqual(self.toll_at(net_of((ask("b", 2),), (ask("c", 0),), ()), 1), (2, 1))

    def test_purses_hold_ever_asks_down(self):
        for per in range(1, 10):
            net = net_of((ask("b", 0, "p"),), (), purses=(("p", "first", per),))
            self.assertEqual(Fraction(*self.toll_at(net, 1)), 1 + Fraction(1, per))
            # With any each try puts a share: per 1 pays for itself for ever.
            net = net_of((ask("b", 0, "p"),), (), purses=(("p", "any", per),))
            wanted = "swells" if per == 1 else (per, per - 1)
            found = self.toll_at(net, 1)
            self.assertEqual(found if found == "swells" else Fraction(*found), wanted if wanted == "swells" else Fraction(*wanted))

    def test_no_run_goes_beyond(self):
        for seed, net, house, yard in small_nets(200, 60):
            told = net_toll(net, house)
            if told[0] == "toll":
                events = some_run(net, seed, 150, 0.05)[0]
                for count in range(0, 151, 10):
                    part = events[:count]
                    self.assertLessEqual(run_load(net, part, house) * told[1][0][1], run_pay(part) * told[1][0][0])

    def test_runs_come_near(self):
        for net in (net_of((ask("b", 3),), (ask("c", 2, sure=False),), ()),
                    net_of((ask("b", 0, "p"),), (), purses=(("p", "any", 3),))):
            house = len(net[0]) - 1
            least = Fraction(*net_toll(net, house)[1][0])
            for n in (1, 4, 30):
                cover, loop, rounds = near(yard_of(net, house), n)
                events = acted(net, house, cover + loop * rounds)
                self.assertLessEqual((n * least - 1) * run_pay(events), n * run_load(net, events, house))


class Owed(unittest.TestCase):
    """[9.4]: what a run owes."""

    def test_nothing(self):
        for net, count in ((net_of(()), 1), (net_of((ask("b", 2, "p"),), (), purses=(("p", "any", 1),)), 6)):
            self.assertEqual(owed(net, 0, ((1, 1), ((7, 3),) * count, ()), []), (0, 1))
            self.assertEqual(owed(net, 0, ((1, 1), ((7, 3),) * count, ()), ()), (0, 1))

    def test_by_hand(self):
        # Places: 0 works alone; 1 stands, 2 works at the first try; 3 stands, 4 works at the second; shares, coins.
        net = net_of((ask("b", 2, "p", sure=False),), (), purses=(("p", "first", 2),))
        paper = ((1, 1), ((1, 2), (1, 3), (1, 5), (1, 7), (1, 11), (1, 13), (1, 17)), ())
        for events, wanted in (([FRESH], (18, 65)), ([FRESH, ("ends", 1, "bad")], (16, 39)), ([FRESH, ("lost", 1)], (71, 78)),
                               ([FRESH] * 2, (39, 85)), ([FRESH] * 2 + [("lost", 1), ("again", 0)], (87, 110)),
                               ([FRESH, ("ends", 1, "well")], (1, 13))):
            self.assertEqual(owed(net, 0, paper, events), wanted)
            self.assertEqual(owed(net, 1, paper, tuple(events)), wanted)

    def test_in_lowest_terms_and_of_any_ratios(self):
        net = net_of(())
        self.assertEqual(owed(net, 0, ((1, 1), ((1, 6),), ()), [FRESH] * 4), (2, 3))
        self.assertEqual(owed(net, 0, ((1, 1), ((-1, 6),), ()), [FRESH] * 4), (-2, 3))
        self.assertEqual(owed(net, 0, ((1, 1), ((0, 1),), (0,)), [FRESH] * 4), (0, 1))
        self.assertEqual(owed(net, 0, [(1, 1), [(10 ** 60, 7)], []], [FRESH]), (10 ** 60, 7))

    def test_weights_of_what_stands(self):
        for seed, net, house, yard in small_nets(150):
            chance = random.Random(seed)
            ratios = [Fraction(chance.randint(0, 20), chance.randint(1, 12)) for place in range(yard[0])]
            paper = ((0, 1), tuple((one.numerator, one.denominator) for one in ratios), ())
            events, world = some_run(net, seed, 40)
            stand = stand_behind(net, world.told(), lost_of(world))
            found = owed(net, house, paper, events)
            self.assertTrue(is_plain_ratio(found))
            self.assertEqual(Fraction(*found), sum(one * count for one, count in zip(ratios, stand)))

    def test_however_the_run_goes_on(self):
        count = 0
        for seed, net, house, yard in small_nets(200, 60):
            told = net_toll(net, house)
            if told[0] == "toll":
                least = Fraction(*told[1][0])
                events = some_run(net, seed, 100, 0.1)[0]
                for cut in range(0, 100, 9):
                    load = run_load(net, events, house) - run_load(net, events[:cut], house)
                    pay = run_pay(events) - run_pay(events[:cut])
                    self.assertLessEqual(load, least * pay + Fraction(*owed(net, house, told[1], events[:cut])))
                    count += 1
        self.assertGreater(count, 500)


if __name__ == "__main__":
    unittest.main()
