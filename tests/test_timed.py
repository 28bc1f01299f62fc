import copy
import random
import unittest
from fractions import Fraction

from helper import ABOVE, FRESH, MORE, STRANGE, World, ask, net_of, some_net
from tryweir.errors import NoEvent, NoHouse, TooMany, WeirError
from tryweir.images import net_toll, owed
from tryweir.netyard import places_of
from tryweir.runs import ran, run_load, run_pay
from tryweir.timed import soonest, stretch, timed


def some_waits(net, seed):
    """Waits for a net, by chance."""
    chance = random.Random(seed)
    waits = []
    for name, asks in net[0]:
        own = []
        for to, tries, *rest in asks:
            count = chance.randint(1, 3) if tries == 0 else tries - 1
            own.append(tuple((chance.randint(0, 6), chance.randint(1, 4)) for pair in range(count)))
        waits.append(tuple(own))
    return tuple(waits)


def wait_by_hand(strewing, errand, j):
    ahead = 1
    for wait, width in strewing[:j - 1]:
        errand //= width
        ahead *= width
    return strewing[j - 1][0] + ahead * (errand % strewing[j - 1][1])


class Clock:
    """A plain timed run: it looks, behind each event, which errand came to stand."""

    def __init__(self, net, waits):
        self.net, self.waits = net, waits
        self.world = World(net)
        self.since = {}

    def soonest(self, number):
        state = self.world.errands[number]["state"]
        strewing = self.waits[self.world.errands[number]["house"]][state[1]]
        return self.since[number] + wait_by_hand(strewing, number, min(state[2], len(strewing)))

    def told(self):
        found = []
        for number, errand in enumerate(self.world.errands):
            if errand["state"][0] == "stands":
                tries = self.net[0][errand["house"]][1][errand["state"][1]][1]
                if tries == 0 or errand["state"][2] < tries:
                    found.append((number, self.soonest(number)))
        return found

    def come(self, tick, event):
        before = {number: errand["state"] for number, errand in enumerate(self.world.errands)}
        self.world.come(event)
        for number, errand in enumerate(self.world.errands):
            if errand["state"][0] == "stands" and before.get(number) != errand["state"]:
                self.since[number] = tick


def some_timed(net, waits, seed, count):
    """A timed run by chance, with the plain one behind it."""
    chance = random.Random(seed)
    clock, pairs, tick = Clock(net, waits), [], 0
    for time in range(count):
        tick += chance.choice((0, 0, 1, 2, 5))
        event = chance.choice(clock.world.may())
        if event[0] == "again" and tick < clock.soonest(event[1]):
            if chance.random() < 0.5:
                event = FRESH
            else:
                tick = clock.soonest(event[1])
        clock.come(tick, event)
        pairs.append((tick, event))
    return pairs, clock


class Timed(unittest.TestCase):
    """[11.1]: timed runs."""

    NET = net_of((ask("b", 4, sure=False),), ())
    WAITS = ((((10, 3), (20, 2), (0, 1)),), ())

    def refused(self, net, waits, pairs, at):
        for call in (timed, soonest, lambda *handed: stretch(handed[0], handed[1], 0, self.paper(handed[0]), handed[2], 0, 0)):
            with self.assertRaises(NoEvent) as caught:
                call(net, waits, pairs)
            self.assertEqual(caught.exception.at, at)

    def paper(self, net):
        return ((0, 1), ((1, 1),) * len(places_of(net)), ())

    def test_no_pairs(self):
        for pairs in ([], ()):
            self.assertEqual(timed(self.NET, self.WAITS, pairs), ([], []))
            self.assertEqual(soonest(self.NET, self.WAITS, pairs), [])
            self.assertEqual(stretch(self.NET, self.WAITS, 0, self.paper(self.NET), pairs, 0, 9), (0, 0, (0, 1)))

    def test_at_the_soonest_tick_and_one_ahead_of_it(self):
        # Errand 0 waits 10, then 20, then 0.
        pairs = [(7, FRESH), (9, ("lost", 1))]
        self.assertEqual(soonest(self.NET, self.WAITS, pairs), [(0, 19)])
        self.refused(self.NET, self.WAITS, pairs + [(18, ("again", 0))], 2)
        self.refused(self.NET, self.WAITS, pairs + [(9, ("again", 0))], 2)
        for tick in (19, 20, 10 ** 20):
            found = timed(self.NET, self.WAITS, pairs + [(tick, ("again", 0))])
            self.assertEqual(found, ran(self.NET, [FRESH, ("lost", 1), ("again", 0)]))
        pairs += [(30, ("again", 0)), (31, ("ends", 2, "bad"))]
        self.assertEqual(soonest(self.NET, self.WAITS, pairs), [(0, 51)])
        self.refused(self.NET, self.WAITS, pairs + [(50, ("again", 0))], 4)
        pairs += [(51, ("again", 0)), (51, ("ends", 3, "bad"))]
        # No wait at all: in one tick it may come to stand and try again.
        self.assertEqual(soonest(self.NET, self.WAITS, pairs), [(0, 51)])
        pairs += [(51, ("again", 0)), (51, ("ends", 4, "bad"))]
        self.assertEqual(timed(self.NET, self.WAITS, pairs), ran(self.NET, [event for tick, event in pairs]))
        self.assertEqual(soonest(self.NET, self.WAITS, pairs), [])
        self.refused(self.NET, self.WAITS, pairs + [(10 ** 6, ("again", 0))], 8)

    def test_each_errand_waits_by_its_own_number(self):
        pairs = [(0, FRESH)] * 4 + [(5, ("ends", number, "bad")) for number in (1, 3, 5, 7)]
        # Errands 0, 2, 4 and 6 by width 3.
        self.assertEqual(soonest(self.NET, self.WAITS, pairs), [(0, 15), (2, 17), (4, 16), (6, 15)])
        # The second digits of 2 and 4 by width 2.
        pairs += [(17, ("again", 2)), (17, ("again", 4)), (17, ("ends", 8, "bad")), (18, ("ends", 9, "bad"))]
        self.assertEqual(soonest(self.NET, self.WAITS, pairs), [(0, 15), (2, 37), (4, 41), (6, 15)])
        self.refused(self.NET, self.WAITS, pairs + [(40, ("again", 4))], 12)
        self.refused(self.NET, self.WAITS, pairs + [(40, ("again", 0)), (40, ("again", 2)), (40, ("again", 4))], 14)

    def test_ever_asks_with_more_tries_than_pairs(self):
        net, waits = net_of((ask("b", 0),), ()), ((((1, 1), (5, 1)),), ())
        pairs, tick = [(0, FRESH)], 0
        for tried in range(1, 9):
            pairs.append((tick, ("ends", tried, "bad")))
            wait = 1 if tried == 1 else 5
            self.assertEqual(soonest(net, waits, pairs), [(0, tick + wait)])
            self.refused(net, waits, pairs + [(tick + wait - 1, ("again", 0))], len(pairs))
            tick += wait
            pairs.append((tick, ("again", 0)))
        self.assertEqual(timed(net, waits, pairs), ran(net, [event for at, event in pairs]))

    def test_an_errand_that_stands_again_at_another_ask(self):
        net, waits = net_of((ask("b", 2), ask("b", 3)), ()), ((((4, 1),), ((7, 1), (9, 1))), ())
        pairs = [(0, FRESH), (1, ("ends", 1, "bad")), (5, ("again", 0)), (6, ("ends", 2, "well")), (8, ("ends", 3, "bad"))]
        # Tries are counted anew: it is the first try again of this ask.
        self.assertEqual(soonest(net, waits, pairs), [(0, 15)])
        self.refused(net, waits, pairs + [(14, ("again", 0))], 5)
        pairs += [(15, ("again", 0)), (16, ("ends", 4, "bad"))]
        self.assertEqual(soonest(net, waits, pairs), [(0, 25)])

    def test_only_tries_again_wait(self):
        pairs = [(3, FRESH), (3, ("lost", 1)), (3, ("up", 0)), (3, ("ends", 1, "spent")), (3, FRESH)]
        self.assertEqual(timed(self.NET, self.WAITS, pairs), ran(self.NET, [event for tick, event in pairs]))

    def test_coins_are_needed_too(self):
        net, waits = net_of((ask("b", 2, "p"),), (), purses=(("p", "first", 2),)), ((((4, 1),),), ())
        pairs = [(0, FRESH), (0, ("ends", 1, "bad"))]
        # Coins aside it may at 4; but there is none.
        self.assertEqual(soonest(net, waits, pairs), [(0, 4)])
        self.refused(net, waits, pairs + [(4, ("again", 0))], 2)
        self.refused(net, waits, pairs + [(3, FRESH), (3, ("again", 0))], 3)
        self.assertEqual(timed(net, waits, pairs + [(3, FRESH), (4, ("again", 0))])[1], [(0, 0)])

    def test_the_plain_sum_where_the_run_has_gone_beyond_it(self):
        pairs = [(0, FRESH), (0, ("lost", 1)), (10 ** 9, FRESH)]
        self.assertEqual(soonest(self.NET, self.WAITS, pairs), [(0, 10)])

    def test_waits_for_what_asks_once(self):
        net, waits = net_of((ask("b"),), (ask("c", 2),), ()), (((),), (((3, 1),),), ())
        pairs = [(0, FRESH), (0, ("ends", 2, "bad"))]
        self.assertEqual(soonest(net, waits, pairs), [(1, 3)])
        self.assertEqual(soonest(net, waits, pairs + [(1, ("up", 1))]), [])
        self.refused(net, waits, pairs + [(1, ("up", 1)), (9, ("again", 0))], 3)

    def test_whatever_stands_behind_the_refused_one(self):
        pairs = [(5, FRESH), (6, ("lost", 1))]
        for tick, event in ((15, ("again", 0)), (99, ("again", 1)), (6, ("ends", 0, "bad")), (6, None), (6, "fresh"), (6, ("up", -1))):
            self.refused(self.NET, self.WAITS, pairs + [(tick, event)], 2)
            for behind in ([(0, FRESH)], [(3, None), (2, ()), (1, "x")], [(99, FRESH), (0, ("again", 0))]):
                self.refused(self.NET, self.WAITS, pairs + [(tick, event)] + behind, 2)
        for thing in STRANGE:
            self.refused(self.NET, self.WAITS, pairs + [(7, thing), (0, FRESH)], 2)

    def test_nets_with_a_great_yard(self):
        for net in (ABOVE, MORE):
            waits = some_waits(net, 1)
            self.assertEqual(timed(net, waits, [(1, FRESH)]), ran(net, [FRESH]))
            self.assertEqual(soonest(net, waits, [(1, FRESH)]), [])

    def test_by_chance(self):
        again = refused = 0
        for seed in range(300):
            net = some_net(seed)
            waits = some_waits(net, seed)
            pairs, clock = some_timed(net, waits, seed, 40)
            self.assertEqual(timed(net, waits, pairs), clock.world.told())
            self.assertEqual(soonest(net, waits, tuple(pairs)), clock.told())
            now = pairs[-1][0]
            again += len([event for tick, event in pairs if event[0] == "again"])
            for number, tick in clock.told():
                if ("again", number) in clock.world.may():
                    timed(net, waits, pairs + [(max(now, tick), ("again", number))])
                    for sooner in range(now, tick):
                        refused += 1
                        with self.assertRaises(NoEvent) as caught:
                            timed(net, waits, pairs + [(sooner, ("again", number))])
                        self.assertEqual(caught.exception.at, len(pairs))
        self.assertGreater(min(again, refused), 300)

    def test_each_list_told_is_a_new_one(self):
        pairs = [(0, FRESH), (0, ("lost", 1))]
        kept = copy.deepcopy(pairs)
        for call in (timed, soonest):
            first = call(self.NET, self.WAITS, pairs)
            told = copy.deepcopy(first)
            for part in first if type(first) is tuple else (first,):
                part.append(1)
            self.assertEqual(call(self.NET, self.WAITS, pairs), told)
        self.assertEqual(pairs, kept)

    def test_2000_pairs(self):
        net, waits = net_of((ask("b", 0),), ()), ((((1, 7), (2, 3)),), ())
        pairs, clock = some_timed(net, waits, 5, 2000)
        self.assertEqual(timed(net, waits, pairs), clock.world.told())


class Stretches(unittest.TestCase):
    """[11.2]: stretches."""

    NET = net_of((ask("b", 3, sure=False),), ())
    WAITS = ((((2, 1), (4, 1)),), ())
    # Places: works alone; stands and works at each of three tries.
    PAPER = ((3, 1), ((1, 1), (20, 1), (30, 1), (40, 1), (50, 1), (60, 1), (70, 1)), ())
    PAIRS = [(1, FRESH), (3, ("lost", 1)), (3, FRESH), (5, ("again", 0)), (5, ("lost", 4)), (9, ("again", 0)), (9, FRESH)]

    def stretch(self, low, high, house=1):
        return stretch(self.NET, self.WAITS, house, self.PAPER, self.PAIRS, low, high)

    def test_by_hand(self):
        for low, high, load, pay, left in ((0, 1, 0, 0, 0), (0, 2, 1, 1, 0), (0, 10, 5, 3, 0), (1, 9, 3, 2, 0), (2, 3, 0, 0, 30),
                                           (2, 4, 1, 1, 30), (3, 4, 1, 1, 30), (4, 5, 0, 0, 51), (4, 6, 1, 0, 51), (5, 6, 1, 0, 51),
                                           (6, 9, 0, 0, 72), (9, 10, 2, 1, 72), (10, 99, 0, 0, 132)):
            self.assertEqual(self.stretch(low, high), (load, pay, (left, 1)), (low, high))
        self.assertEqual(self.stretch(0, 10, 0), (3, 3, (0, 1)))

    def test_low_and_high_alike(self):
        for tick, left in ((0, 0), (1, 0), (2, 30), (3, 30), (5, 51), (9, 72), (10, 132), (10 ** 60, 132)):
            self.assertEqual(self.stretch(tick, tick), (0, 0, (left, 1)))

    def test_refused_in_order(self):
        wrong = self.PAIRS + [(9, ("again", 0))]
        soon = self.PAIRS[:2] + [(4, ("again", 0))]
        for low, high in ((0, 0), (0, 99), (5, 6), (99, 99)):
            for house in (-1, 4, 10 ** 60):
                for net in (self.NET, ABOVE, MORE):
                    self.assertRaises(NoHouse, stretch, net, some_waits(net, 0), house, self.PAPER, wrong, low, high)
            for net in (ABOVE, MORE):
                for pairs in ([], [(0, FRESH)], [(0, ("up", 0))]):
                    self.assertRaises(TooMany, stretch, net, some_waits(net, 0), 3, self.PAPER, pairs, low, high)
            for pairs, at in ((wrong, 7), (soon, 2)):
                with self.assertRaises(NoEvent) as caught:
                    stretch(self.NET, self.WAITS, 1, self.PAPER, pairs, low, high)
                self.assertEqual(caught.exception.at, at)

    def test_any_cut_of_any_run(self):
        count = 0
        for seed in range(250):
            net = some_net(seed)
            house = seed % len(net[0])
            try:
                told = net_toll(net, house)
            except TooMany:
                continue
            waits = some_waits(net, seed)
            pairs, clock = some_timed(net, waits, seed, 40)
            events = [event for tick, event in pairs]
            chance = random.Random(seed)
            paper = told[1] if told[0] == "toll" else ((0, 1), ((1, 1),) * len(places_of(net)), ())
            for time in range(6):
                low, high = sorted(chance.randint(0, pairs[-1][0] + 2) for end in range(2))
                first = len([tick for tick, event in pairs if tick < low])
                last = len([tick for tick, event in pairs if tick < high])
                load = run_load(net, events[:last], house) - run_load(net, events[:first], house)
                found = stretch(net, waits, house, paper, pairs, low, high)
                self.assertEqual(found, (load, run_pay(events[first:last]), owed(net, house, paper, events[:first])))
                if told[0] == "toll":
                    count += 1
                    self.assertLessEqual(found[0], Fraction(*paper[0]) * found[1] + Fraction(*found[2]))
        self.assertGreater(count, 500)

    def test_one_behind_the_other(self):
        # The stretches of one run add up; and what one owes is at least what the next one owes, by what came.
        for seed in range(40):
            net = some_net(seed)
            house = len(net[0]) - 1
            try:
                told = net_toll(net, house)
            except WeirError:
                continue
            if told[0] != "toll":
                continue
            waits = some_waits(net, seed)
            pairs, clock = some_timed(net, waits, seed, 60)
            least, end = Fraction(*told[1][0]), pairs[-1][0] + 1
            cuts = sorted({0, end, *random.Random(seed).sample(range(end), min(end, 5))})
            parts = [stretch(net, waits, house, told[1], pairs, low, high) for low, high in zip(cuts, cuts[1:] + [end])]
            events = [event for tick, event in pairs]
            self.assertEqual(sum(load for load, pay, left in parts), run_load(net, events, house))
            self.assertEqual(sum(pay for load, pay, left in parts), run_pay(events))
            for (load, pay, left), (next_load, next_pay, after) in zip(parts, parts[1:]):
                self.assertLessEqual(load + Fraction(*after), least * pay + Fraction(*left))


if __name__ == "__main__":
    unittest.main()
