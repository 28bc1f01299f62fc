import copy
import random
import unittest

from helper import FRESH, STRANGE, WORKS, World, ask, net_of, some_net
from tryweir.errors import NoEvent, NoHouse
from tryweir.nets import is_net
from tryweir.runs import may_come, ran, run_load, run_pay

WELL = ("ended", "well")
BAD = ("ended", "bad")
SPENT = ("ended", "spent")


class Runs(unittest.TestCase):
    def refused(self, net, events, at):
        for call in (ran, may_come, lambda net, events: run_load(net, events, 0)):
            with self.assertRaises(NoEvent) as caught:
                call(net, events)
            self.assertEqual(caught.exception.at, at)

    def errands(self, net, events):
        return ran(net, events)[0]

    def states(self, net, events):
        return [state for house, caller, state in self.errands(net, events)]


class Events(Runs):
    """[7.2], [8.1] and [8.2]: errands and events."""

    ONE = net_of(())
    TWO = net_of((ask("b", 3, sure=False),), ())

    def test_no_events(self):
        self.assertEqual(ran(self.ONE, []), ([], []))
        self.assertEqual(ran(self.ONE, ()), ([], []))
        self.assertEqual(ran(net_of((), purses=(("p", "any", 1), ("q", "first", 2))), []), ([], [(0, 0), (0, 0)]))
        self.assertEqual(may_come(self.ONE, []), [FRESH])

    def test_a_worker_alone(self):
        self.assertEqual(ran(self.ONE, [FRESH]), ([(0, None, WORKS)], []))
        for word in ("well", "bad", "spent"):
            self.assertEqual(ran(self.ONE, [FRESH, FRESH, ("ends", 1, word)]), ([(0, None, WORKS), (0, None, ("ended", word))], []))
            self.refused(self.ONE, [FRESH, ("ends", 0, word), ("ends", 0, word)], 2)
        self.assertEqual(may_come(self.ONE, [FRESH, FRESH, ("ends", 0, "bad")]),
                         [FRESH, ("ends", 1, "bad"), ("ends", 1, "spent"), ("ends", 1, "well")])

    def test_an_errand_begins_what_it_asks(self):
        self.assertEqual(self.errands(self.TWO, [FRESH]), [(0, None, ("waits", 0, 1)), (1, (0, 0, 1), WORKS)])
        chain = net_of((ask("b"),), (ask("c"),), (ask("d"),), ())
        self.assertEqual(self.errands(chain, [FRESH]), [(0, None, ("waits", 0, 1)), (1, (0, 0, 1), ("waits", 0, 1)),
                                                        (2, (1, 0, 1), ("waits", 0, 1)), (3, (2, 0, 1), WORKS)])
        self.assertEqual(self.states(chain, [FRESH, ("ends", 3, "well")]), [WELL] * 4)
        self.assertEqual(self.states(chain, [FRESH, ("ends", 3, "spent")]), [SPENT] * 4)
        self.assertEqual(self.states(chain, [FRESH, ("ends", 3, "bad")]), [("waits", 0, 1)] * 2 + [("stands", 0, 1), BAD])

    def test_asks_in_order(self):
        net = net_of((ask("b"), ask("c", 2), ask("b")), (), ())
        events = [FRESH, ("ends", 1, "well"), ("ends", 2, "bad"), ("again", 0), ("ends", 3, "well"), ("ends", 4, "well")]
        self.assertEqual(self.errands(net, events[:2]), [(0, None, ("waits", 1, 1)), (1, (0, 0, 1), WELL), (2, (0, 1, 1), WORKS)])
        self.assertEqual(self.errands(net, events[:5])[0], (0, None, ("waits", 2, 1)))
        self.assertEqual(self.errands(net, events), [(0, None, WELL), (1, (0, 0, 1), WELL), (2, (0, 1, 1), BAD), (2, (0, 1, 2), WELL),
                                                     (1, (0, 2, 1), WELL)])

    def test_hears_and_not(self):
        for hears, state in ((True, SPENT), (False, ("stands", 0, 1))):
            net = net_of((ask("b", 2, hears=hears), ask("b")), ())
            self.assertEqual(self.states(net, [FRESH, ("ends", 1, "spent")]), [state, SPENT])
            self.assertEqual(self.states(net, [FRESH, ("ends", 1, "bad")]), [("stands", 0, 1), BAD])
        self.refused(net_of((ask("b", 2),), ()), [FRESH, ("ends", 1, "spent"), ("up", 0)], 2)

    def test_words_of_asks(self):
        for word in ("bad", "spent"):
            net = net_of((ask("b", word=word),), ())
            self.assertEqual(self.states(net, [FRESH, ("ends", 1, "bad"), ("up", 0)]), [("ended", word), BAD])
            for hears in (True, False):
                net = net_of((ask("b", hears=hears),), (ask("c", word=word),), ())
                above = SPENT if word == "spent" and hears else ("stands", 0, 1)
                self.assertEqual(self.states(net, [FRESH, ("ends", 2, "bad"), ("up", 1)]), [above, ("ended", word), BAD])

    def test_so_many_tries(self):
        for tries in range(1, 5):
            net = net_of((ask("b", tries),), ())
            events = [FRESH]
            for tried in range(1, tries + 1):
                events.append(("ends", tried, "bad"))
                self.assertEqual(self.errands(net, events)[0], (0, None, ("stands", 0, tried)))
                self.assertEqual(self.errands(net, events)[-1], (1, (0, 0, tried), BAD))
                self.assertIn(("up", 0), may_come(net, events))
                self.assertIs(("again", 0) in may_come(net, events), tried < tries)
                events.append(("again", 0))
            self.refused(net, events, len(events) - 1)

    def test_ever_again(self):
        net = net_of((ask("b", 0),), ())
        events = [FRESH]
        for tried in range(1, 900):
            events.extend([("ends", tried, "bad"), ("again", 0)])
        self.assertEqual(self.errands(net, events)[-1], (1, (0, 0, 900), WORKS))
        self.assertEqual(self.states(net, events)[0], ("waits", 0, 900))
        self.assertEqual(self.states(net, events + [("ends", 900, "bad")])[0], ("stands", 0, 900))

    def test_tries_are_of_one_ask(self):
        net = net_of((ask("b", 2), ask("b", 2)), ())
        events = [FRESH, ("ends", 1, "bad"), ("again", 0), ("ends", 2, "well"), ("ends", 3, "bad"), ("again", 0), ("ends", 4, "bad")]
        self.assertEqual(self.states(net, events)[0], ("stands", 1, 2))
        self.refused(net, events + [("again", 0)], 7)

    def test_lost(self):
        events = [FRESH, ("lost", 1)]
        self.assertEqual(self.errands(self.TWO, events), [(0, None, ("stands", 0, 1)), (1, (0, 0, 1), WORKS)])
        # It goes on, and nobody hears of it.
        for word in ("well", "bad", "spent"):
            self.assertEqual(self.states(self.TWO, events + [("ends", 1, word)]), [("stands", 0, 1), ("ended", word)])
        events.append(("again", 0))
        self.assertEqual(self.errands(self.TWO, events), [(0, None, ("waits", 0, 2)), (1, (0, 0, 1), WORKS), (1, (0, 0, 2), WORKS)])
        self.assertEqual(self.states(self.TWO, events + [("ends", 1, "well")]), [("waits", 0, 2), WELL, WORKS])
        self.assertEqual(self.states(self.TWO, events + [("ends", 2, "well")]), [WELL, WORKS, WELL])
        self.assertEqual(self.states(self.TWO, [FRESH, ("lost", 1), ("up", 0), ("ends", 1, "well")]), [BAD, WELL])

    def test_what_cannot_be_lost(self):
        self.refused(self.TWO, [FRESH, ("lost", 0)], 1)
        self.refused(self.TWO, [FRESH, ("lost", 1), ("lost", 1)], 2)
        self.refused(self.TWO, [FRESH, ("ends", 1, "bad"), ("lost", 1)], 2)
        self.refused(self.TWO, [FRESH, ("lost", 1), ("ends", 1, "bad"), ("lost", 1)], 3)
        self.refused(net_of((ask("b", 3, sure=True),), ()), [FRESH, ("lost", 1)], 1)
        # Which ask began it is what counts.
        net = net_of((ask("b", sure=True), ask("b", sure=False)), ())
        self.refused(net, [FRESH, ("lost", 1)], 1)
        self.assertEqual(self.states(net, [FRESH, ("ends", 1, "well"), ("lost", 2)]), [("stands", 1, 1), WELL, WORKS])

    def test_an_errand_that_waits_or_stands_is_lost(self):
        net = net_of((ask("b", 2, sure=False),), (ask("c", 2, sure=True),), ())
        self.assertEqual(self.states(net, [FRESH, ("lost", 1)]), [("stands", 0, 1), ("waits", 0, 1), WORKS])
        events = [FRESH, ("ends", 2, "bad"), ("lost", 1)]
        self.assertEqual(self.states(net, events), [("stands", 0, 1), ("stands", 0, 1), BAD])
        self.assertEqual(may_come(net, events), [FRESH, ("again", 0), ("up", 0), ("again", 1), ("up", 1)])
        events += [("again", 1), ("ends", 3, "well")]
        self.assertEqual(self.states(net, events), [("stands", 0, 1), WELL, BAD, WELL])

    def test_what_goes_on_at_once(self):
        # The end of the worker ends the errand above, which begins the next ask of the one above that.
        net = net_of((ask("b"), ask("b")), (ask("c"),), ())
        self.assertEqual(self.errands(net, [FRESH, ("ends", 2, "well")]),
                         [(0, None, ("waits", 1, 1)), (1, (0, 0, 1), WELL), (2, (1, 0, 1), WELL), (1, (0, 1, 1), ("waits", 0, 1)),
                          (2, (3, 0, 1), WORKS)])

    def test_up_and_again_of_what_does_not_stand(self):
        for event in (("up", 0), ("again", 0), ("up", 1), ("again", 1)):
            self.refused(self.TWO, [FRESH, event], 1)
            self.refused(self.TWO, [FRESH, ("ends", 1, "well"), event], 2)
        self.refused(self.TWO, [FRESH, ("ends", 1, "bad"), ("up", 0), ("up", 0)], 3)

    def test_ends_of_what_does_not_work(self):
        self.refused(self.TWO, [FRESH, ("ends", 0, "well")], 1)
        self.refused(self.TWO, [FRESH, ("ends", 1, "bad"), ("ends", 0, "bad")], 2)

    def test_the_first_that_cannot_come(self):
        wrong = [("ends", 2, "well"), ("ends", -1, "well"), ("ends", -2, "well"), ("ends", 10 ** 60, "bad"), ("ends", 1, "good"),
                 ("ends", 1, ""), ("ends", 1, "Well"), ("lost", 2), ("lost", -1), ("lost", 10 ** 60), ("again", 2), ("again", -2),
                 ("up", 2), ("up", -2), ("up", -10 ** 60), ("again", 0), ("works", 1), ("stale",), ("begin", 1, "well"), ("fresh", 0),
                 ("ends", 1), ("lost", 1, "bad"), ("ends", True, "well"), ("lost", True)]
        for event in wrong:
            self.refused(self.TWO, [event], 0)
            self.refused(self.TWO, [FRESH, event], 1)
            self.refused(self.TWO, [FRESH, event, FRESH, event], 1)
            self.refused(self.TWO, (FRESH, event), 1)
        for thing in STRANGE:
            self.refused(self.TWO, [FRESH, thing], 1)
        self.refused(self.TWO, [FRESH, ("ends", 3, "well"), FRESH], 1)
        self.refused(self.TWO, [FRESH, ("lost", 1)] * 700 + [("up", 1)], 3)

    def test_2000_events(self):
        found = ran(self.TWO, [FRESH] * 2000)
        self.assertEqual(len(found[0]), 4000)
        self.assertEqual(run_load(self.TWO, [FRESH] * 2000, 1), 2000)
        self.refused(self.TWO, [FRESH] * 1999 + [("up", 0)], 1999)


class Purses(Runs):
    """[7.3]: shares and coins."""

    def purses(self, net, events):
        return ran(net, events)[1]

    def test_no_coin_no_try(self):
        net = net_of((ask("b", 3, "p"),), (), purses=(("p", "first", 2),))
        self.assertEqual(self.purses(net, [FRESH]), [(1, 0)])
        self.refused(net, [FRESH, ("ends", 1, "bad"), ("again", 0)], 2)
        self.assertEqual(may_come(net, [FRESH, ("ends", 1, "bad")]), [FRESH, ("up", 0)])
        events = [FRESH, ("ends", 1, "bad"), FRESH]
        self.assertEqual(self.purses(net, events), [(0, 1)])
        self.assertEqual(self.purses(net, events + [("again", 0)]), [(0, 0)])
        self.refused(net, events + [("again", 0), ("ends", 4, "bad"), ("again", 0)], 5)
        self.refused(net, events + [("again", 0), ("ends", 3, "bad"), ("again", 2)], 5)

    def test_tries_are_counted_with_coins_too(self):
        net = net_of((ask("b", 1, "p"),), (), purses=(("p", "first", 1),))
        self.assertEqual(self.purses(net, [FRESH, ("ends", 1, "bad")]), [(0, 1)])
        self.refused(net, [FRESH, ("ends", 1, "bad"), ("again", 0)], 2)

    def test_first_and_any(self):
        for earns, shares in (("first", (0, 0)), ("any", (1, 0))):
            net = net_of((ask("b", 0, "p"),), (), purses=(("p", earns, 2),))
            self.assertEqual(self.purses(net, [FRESH, FRESH, ("ends", 1, "bad"), ("again", 0)]), [shares])

    def test_the_coin_is_taken_ahead_of_the_share(self):
        # Its own share can't pay for a try; but it pays for the next one.
        net = net_of((ask("b", 0, "p"),), (), purses=(("p", "any", 2),))
        events = [FRESH, ("ends", 1, "bad")]
        self.assertEqual(self.purses(net, events), [(1, 0)])
        self.refused(net, events + [("again", 0)], 2)
        net = net_of((ask("b", 0, "p"),), (), purses=(("p", "any", 1),))
        for time in range(4):
            self.assertEqual(self.purses(net, events), [(0, 1)])
            events += [("again", 0), ("ends", 2 + time, "bad")]

    def test_per(self):
        for per in range(1, 10):
            net = net_of((ask("b", 2, "p"),), (), purses=(("p", "first", per),))
            for count in range(20):
                self.assertEqual(self.purses(net, [FRESH] * count), [(count % per, count // per)])

    def test_asks_without_a_purse(self):
        net = net_of((ask("b", 2), ask("b", 2, "q")), (), purses=(("p", "any", 1), ("q", "any", 3)))
        events = [FRESH, ("ends", 1, "bad"), ("again", 0)]
        self.assertEqual(self.purses(net, events), [(0, 0), (0, 0)])
        self.assertEqual(self.purses(net, events + [("ends", 2, "well")]), [(0, 0), (1, 0)])

    def test_shares_of_what_begins_at_once(self):
        # One event begins three tries with this purse: the coin is there behind it.
        net = net_of((ask("b", 2, "p"),), (ask("c", 2, "p"),), (ask("d", 2, "p"),), (), purses=(("p", "first", 2),))
        self.assertEqual(self.purses(net, [FRESH]), [(1, 1)])
        self.assertEqual(self.purses(net, [FRESH, FRESH]), [(0, 3)])
        # A try again at the top puts none itself, but begins two first tries beneath it.
        events = [FRESH, ("ends", 3, "bad"), ("up", 2), ("up", 1)]
        self.assertEqual(self.purses(net, events), [(1, 1)])
        self.assertEqual(self.purses(net, events + [("again", 0)]), [(1, 1)])

    def test_two_purses(self):
        net = net_of((ask("b", 0, "q"), ask("b", 0, "p")), (), purses=(("p", "any", 2), ("q", "first", 1)))
        events = [FRESH, ("ends", 1, "bad"), ("again", 0), ("ends", 2, "well")]
        self.assertEqual(self.purses(net, events[:1]), [(0, 0), (0, 1)])
        self.assertEqual(self.purses(net, events), [(1, 0), (0, 0)])
        self.assertEqual(self.purses(net, events + [FRESH, ("ends", 5, "well")]), [(0, 1), (0, 1)])

    def test_one_purse_of_several_houses(self):
        net = net_of((ask("b", 2, "p"),), (ask("c", 2, "p"),), (), purses=(("p", "first", 2),))
        events = [FRESH, ("ends", 2, "bad"), ("again", 1)]
        self.assertEqual(self.purses(net, events[:1]), [(0, 1)])
        self.assertEqual(self.purses(net, events), [(0, 0)])
        self.refused(net, events + [("ends", 3, "bad"), ("up", 1), ("again", 0)], 5)


class Counted(Runs):
    """[8.2] and the interface: load, pay and what may come."""

    NET = net_of((ask("b", 2, sure=False), ask("c", 2)), (ask("c"),), ())
    EVENTS = [FRESH, ("ends", 2, "bad"), FRESH, ("lost", 1), ("again", 0), ("ends", 7, "well")]

    def test_load_and_pay(self):
        self.assertEqual([run_load(self.NET, self.EVENTS, house) for house in range(3)], [2, 3, 4])
        self.assertEqual(run_pay(self.EVENTS), 2)
        self.assertEqual([run_load(self.NET, [], house) for house in range(3)], [0, 0, 0])
        self.assertEqual(run_pay([]), 0)
        self.assertEqual(run_pay((FRESH,) * 3), 3)

    def test_no_house_ahead_of_no_event(self):
        for number in (-1, -3, 3, 4, 10 ** 60):
            for events in ([], self.EVENTS, [("up", 0)]):
                with self.assertRaises(NoHouse):
                    run_load(self.NET, events, number)
        with self.assertRaises(NoEvent) as caught:
            run_load(self.NET, [FRESH, ("up", 0)], 2)
        self.assertEqual(caught.exception.at, 1)

    def test_the_told_order(self):
        net = net_of((ask("b", 0, sure=False),), (ask("c", 2, sure=False),), ())
        events = [FRESH, FRESH, ("ends", 2, "bad")]
        self.assertEqual(may_come(net, events),
                         [FRESH, ("lost", 1), ("again", 1), ("up", 1), ("lost", 4), ("ends", 5, "bad"), ("ends", 5, "spent"),
                          ("ends", 5, "well"), ("lost", 5)])
        self.assertEqual(may_come(net, events + [("lost", 4)]),
                         [FRESH, ("lost", 1), ("again", 1), ("up", 1), ("again", 3), ("up", 3), ("ends", 5, "bad"),
                          ("ends", 5, "spent"), ("ends", 5, "well"), ("lost", 5)])


class ByChance(Runs):
    """[8.1] and [8.2], against a plain run."""

    def test_as_plain_runs_go(self):
        kinds = set()
        for seed in range(250):
            net = some_net(seed)
            self.assertIs(is_net(net), True)
            chance = random.Random(seed)
            world, events = World(net), []
            for time in range(30):
                may = world.may()
                self.assertEqual(may_come(net, events), may)
                event = chance.choice(may[1:] if len(may) > 1 and chance.random() < 0.8 else may)
                events.append(event)
                world.come(event)
                kinds.add(event[0])
                self.assertEqual(ran(net, events), world.told())
            for house in range(len(net[0])):
                self.assertEqual(run_load(net, events, house), sum(errand["house"] == house for errand in world.errands))
            self.assertEqual(run_pay(events), sum(errand["caller"] is None for errand in world.errands))
        self.assertEqual(kinds, {"fresh", "ends", "lost", "again", "up"})

    def test_no_other_event_comes(self):
        for seed in range(60):
            net = some_net(seed)
            chance = random.Random(seed)
            events = []
            for time in range(12):
                may = may_come(net, events)
                for number in range(-1, len(ran(net, events)[0]) + 1):
                    for event in (("ends", number, "bad"), ("ends", number, "spent"), ("ends", number, "well"), ("lost", number),
                                  ("again", number), ("up", number)):
                        if event in may:
                            ran(net, events + [event])
                        else:
                            self.refused(net, events + [event], len(events))
                events.append(chance.choice(may))

    def test_each_list_told_is_a_new_one(self):
        for seed in range(20):
            net = some_net(seed)
            events = [FRESH, FRESH]
            for time in range(9):
                events.append(may_come(net, events)[-1])
            before = copy.deepcopy(events)
            told, may = ran(net, events), may_come(net, events)
            self.assertEqual((type(told), type(told[0]), type(told[1]), type(may)), (tuple, list, list, list))
            kept = copy.deepcopy((told, may))
            for found in told + (may,):
                found.append(None)
                found[0] = None
            self.assertEqual((ran(net, events), may_come(net, events)), kept)
            self.assertEqual((ran(net, tuple(events)), may_come(net, tuple(events))), kept)
            self.assertEqual(events, before)
            self.assertTrue(all(type(part) is tuple for part in kept[0][0] + kept[0][1] + kept[1]))


if __name__ == "__main__":
    unittest.main()
