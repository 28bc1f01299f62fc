"""What the document promises over the whole program."""

import random
import unittest
from fractions import Fraction

from helper import FRESH, World, ask, counted, net_of, some_net, some_run
from tryweir.errors import TooMany
from tryweir.images import acted, image, net_toll, owed
from tryweir.netyard import yard_of
from tryweir.rows import load_of, pay_of, walked
from tryweir.runs import run_load, run_pay
from tryweir.tolljudge import pays, shows
from tryweir.tolls import near
from tryweir.yards import empty

# Nets of each kind, with the house to be measured.
KINDS = (
    (net_of(()), 0),
    (net_of((ask("b"),), ()), 1),
    (net_of((ask("b", 4),), ()), 1),
    (net_of((ask("b", 2),), (ask("c", 3),), (ask("d", 2),), ()), 3),
    (net_of((ask("b", 3, sure=False),), (ask("c", 2, sure=False),), ()), 2),
    (net_of((ask("b", 3, hears=False),), (ask("c", 2, word="spent"),), ()), 2),
    (net_of((ask("b", 3),), (ask("c", 2, word="spent", sure=False),), ()), 2),
    (net_of((ask("b", 2), ask("c", 2, sure=False)), (ask("c", 3),), ()), 2),
    (net_of((ask("b", 0, "p"),), (), purses=(("p", "first", 3),)), 1),
    (net_of((ask("b", 0, "p"),), (), purses=(("p", "any", 4),)), 1),
    (net_of((ask("b", 3, "p", sure=False),), (ask("c", 2, "p"),), (), purses=(("p", "first", 2),)), 2),
    (net_of((ask("b", 0, "p"),), (ask("c", 0, "q", sure=False),), (), purses=(("p", "first", 2), ("q", "any", 3))), 2),
    (net_of((ask("b", 0),), ()), 1),
    (net_of((ask("b", 2, sure=False),), (ask("c", 0),), ()), 2),
    (net_of((ask("b", 0, "p"),), (), purses=(("p", "any", 1),)), 1),
    (net_of((ask("b", 0, "p"),), (ask("c", 1, "p"),), (), purses=(("p", "any", 2),)), 2),
)


def done_in(row):
    return sum(times for number, times in row)


class Whole(unittest.TestCase):
    """[0.1], [0.4]: papers from both sides."""

    def test_each_kind_is_there(self):
        found = [net_toll(net, house)[0] for net, house in KINDS]
        self.assertEqual(found, ["toll"] * 12 + ["swells"] * 4)

    def test_just_one_is_told_and_it_is_so(self):
        for net, house in KINDS:
            yard, told = yard_of(net, house), net_toll(net, house)
            if told[0] == "toll":
                self.assertIs(pays(yard, told[1]), True)
                self.assertEqual(shows(yard, told[2]), ("toll", told[1][0]))
                # Nothing less holds, whatever the weights: the ring shows it.
                lesser = Fraction(*told[1][0]) - Fraction(1, 1000)
                if lesser >= 0:
                    self.assertIs(pays(yard, ((lesser.numerator, lesser.denominator),) + told[1][1:]), False)
            else:
                self.assertEqual(shows(yard, told[1]), ("swells",))

    def test_no_run_has_more_load_than_the_toll_times_its_pay(self):
        for net, house in KINDS:
            told = net_toll(net, house)
            if told[0] == "toll":
                least = Fraction(*told[1][0])
                for seed in range(12):
                    events = some_run(net, seed, 120, (0.02, 0.1, 0.5)[seed % 3])[0]
                    for count in range(0, 121, 5):
                        self.assertLessEqual(run_load(net, events[:count], house), least * run_pay(events[:count]))

    def test_greedy_runs(self):
        # Runs that try again wherever they can, and let worker after worker end badly.
        for net, house in KINDS:
            told = net_toll(net, house)
            if told[0] == "toll":
                least = Fraction(*told[1][0])
                for seed in range(3):
                    events = self.greedy(net, seed)
                    self.assertLessEqual(run_load(net, events, house), least * run_pay(events))
                    for count in range(0, len(events), 11):
                        rest = run_load(net, events, house) - run_load(net, events[:count], house)
                        paid = run_pay(events[count:])
                        self.assertLessEqual(rest, least * paid + Fraction(*owed(net, house, told[1], events[:count])))

    def greedy(self, net, seed):
        chance = random.Random(seed)
        world, events = World(net), []
        for time in range(100):
            may = world.may()
            best = [event for event in may if event[0] == "again"] or [event for event in may if event[-1] == "bad"] or may
            events.append(FRESH if chance.random() < 0.1 else chance.choice(best))
            world.come(events[-1])
        return events

    def test_rings_acted_as_runs_come_as_near_as_wanted(self):
        for net, house in KINDS:
            yard, told = yard_of(net, house), net_toll(net, house)
            for n in (1, 3, 10, 40):
                cover, loop, rounds = near(yard, n)
                row = cover + loop * rounds
                if done_in(row) > 2000:
                    self.assertGreater(n, 10)
                    continue
                events = acted(net, house, row)
                load, pay = run_load(net, events, house), run_pay(events)
                self.assertEqual((load, pay), counted(yard, row)[:2])
                if told[0] == "toll":
                    self.assertLessEqual((n * Fraction(*told[1][0]) - 1) * pay, n * load)
                else:
                    self.assertGreaterEqual(load, n)
                    self.assertEqual(pay, pay_of(yard, cover))

    def test_loops_that_need_no_cover(self):
        # Where each deed of a loop can be done behind those ahead of it, the loop stands in such an order.
        for net, house in KINDS[:9]:
            cover, loop = net_toll(net, house)[2]
            self.assertEqual(cover, [])
            self.assertEqual(acted(net, house, loop)[0], FRESH)

    def test_runs_that_swell(self):
        for net, house in KINDS[12:]:
            cover, loop = net_toll(net, house)[1]
            loads = [run_load(net, acted(net, house, cover + loop * rounds), house) for rounds in range(1, 20)]
            self.assertEqual(loads, sorted(set(loads)))
            pay = [run_pay(acted(net, house, cover + loop * rounds)) for rounds in (0, 1, 19)]
            self.assertEqual(len(set(pay)), 1)

    def test_runs_are_rows_and_rows_are_runs(self):
        count = 0
        for seed in range(1000, 1120):
            net = some_net(seed)
            for house in range(len(net[0])):
                try:
                    yard = yard_of(net, house)
                except TooMany:
                    continue
                events = some_run(net, seed, 40)[0]
                row = image(net, house, events)
                walked(yard, empty(yard), row)
                self.assertEqual((load_of(yard, row), pay_of(yard, row)), (run_load(net, events, house), run_pay(events)))
                again = acted(net, house, row)
                self.assertEqual(image(net, house, again), row)
                count += 1
        self.assertGreater(count, 200)


if __name__ == "__main__":
    unittest.main()
