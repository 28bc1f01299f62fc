import copy
import unittest

from helper import FRESH, STRANGE, ask, net_of, some_net, some_run
from tryweir.errors import NoEvent
from tryweir.ledgers import ledger
from tryweir.runs import ran


def by_hand(net, errands):
    """The ledger as the told errands show it: each but a fresh one was begun by a try, in the order of the tries."""
    coins, payments = [], []
    purses = {name: number for number, (name, earns, per) in enumerate(net[1])}
    shares = [[] for purse in net[1]]
    taken = [0 for purse in net[1]]
    for number, (house, caller, state) in enumerate(errands):
        if caller is None:
            continue
        purse = net[0][errands[caller[0]][0]][1][caller[1]][2]
        if purse is None:
            continue
        at = purses[purse]
        if caller[2] > 1:
            payments.append((number, at, taken[at]))
            taken[at] += 1
        if caller[2] == 1 or net[1][at][1] == "any":
            shares[at].append(number)
    for at, (name, earns, per) in enumerate(net[1]):
        coins.append([tuple(shares[at][from_:from_ + per]) for from_ in range(0, len(shares[at]) - per + 1, per)])
    return coins, payments


class Ledgers(unittest.TestCase):
    """[8.3]: coins, and what they paid for."""

    def test_without_purses_and_events(self):
        self.assertEqual(ledger(net_of(()), []), ([], []))
        self.assertEqual(ledger(net_of(()), [FRESH, ("ends", 0, "bad")]), ([], []))
        self.assertEqual(ledger(net_of((ask("b", 3),), ()), [FRESH, ("ends", 1, "bad"), ("again", 0)]), ([], []))
        self.assertEqual(ledger(net_of((), purses=(("p", "any", 1), ("q", "first", 2))), []), ([[], []], []))
        self.assertEqual(ledger(net_of((), purses=(("p", "any", 1),)), (FRESH,)), ([[]], []))

    def test_first_with_per_1(self):
        net = net_of((ask("b", 0, "p"),), (), purses=(("p", "first", 1),))
        events = [FRESH, ("ends", 1, "bad"), ("again", 0), FRESH, ("ends", 2, "bad"), ("again", 0)]
        self.assertEqual(ledger(net, events[:2]), ([[(1,)]], []))
        self.assertEqual(ledger(net, events[:3]), ([[(1,)]], [(2, 0, 0)]))
        self.assertEqual(ledger(net, events), ([[(1,), (4,)]], [(2, 0, 0), (5, 0, 1)]))

    def test_any_with_per_1(self):
        # The share of a try again makes a coin of its own, which pays for the next one.
        net = net_of((ask("b", 0, "p"),), (), purses=(("p", "any", 1),))
        events = [FRESH, ("ends", 1, "bad"), ("again", 0), ("ends", 2, "bad"), ("again", 0)]
        self.assertEqual(ledger(net, events[:3]), ([[(1,), (2,)]], [(2, 0, 0)]))
        self.assertEqual(ledger(net, events), ([[(1,), (2,), (3,)]], [(2, 0, 0), (3, 0, 1)]))

    def test_first_with_per_2_and_3(self):
        for per, coins, paid in ((2, [(1, 3), (5, 7)], 1), (3, [(1, 3, 5)], 1), (4, [(1, 3, 5, 7)], 1), (5, [], 0)):
            net = net_of((ask("b", 4, "p"),), (), purses=(("p", "first", per),))
            self.assertEqual(ledger(net, [FRESH] * 4), ([coins], []))
            if paid:
                events = [FRESH] * 4 + [("ends", 3, "bad"), ("again", 2)]
                self.assertEqual(ledger(net, events), ([coins], [(8, 0, 0)]))

    def test_any_with_per_2(self):
        net = net_of((ask("b", 0, "p"),), (), purses=(("p", "any", 2),))
        events = [FRESH, FRESH, ("ends", 1, "bad"), ("again", 0), FRESH, ("ends", 4, "bad"), ("again", 0)]
        self.assertEqual(ledger(net, events[:4]), ([[(1, 3)]], [(4, 0, 0)]))
        self.assertEqual(ledger(net, events[:5]), ([[(1, 3), (4, 6)]], [(4, 0, 0)]))
        self.assertEqual(ledger(net, events), ([[(1, 3), (4, 6)]], [(4, 0, 0), (7, 0, 1)]))

    def test_coins_are_taken_in_the_order_in_which_they_came(self):
        net = net_of((ask("b", 2, "p"),), (), purses=(("p", "first", 1),))
        events = [FRESH] * 3 + [("ends", 5, "bad"), ("ends", 1, "bad"), ("again", 4), ("again", 0)]
        self.assertEqual(ledger(net, events), ([[(1,), (3,), (5,)]], [(6, 0, 0), (7, 0, 1)]))

    def test_two_purses(self):
        net = net_of((ask("b", 0, "q"), ask("b", 0, "p")), (), purses=(("p", "any", 1), ("q", "first", 2)))
        events = [FRESH, FRESH, ("ends", 1, "bad"), ("again", 0), ("ends", 4, "well"), ("ends", 5, "bad"), ("again", 0)]
        self.assertEqual(ledger(net, events), ([[(5,), (6,)], [(1, 3)]], [(4, 1, 0), (6, 0, 0)]))

    def test_two_asks_with_one_purse(self):
        net = net_of((ask("b", 2, "p"),), (ask("c", 2, "p"),), (), purses=(("p", "first", 2),))
        events = [FRESH, ("ends", 2, "bad"), ("again", 1), FRESH, ("ends", 3, "bad"), ("up", 1), ("again", 0)]
        self.assertEqual(ledger(net, events[:1]), ([[(1, 2)]], []))
        # The try again at the top takes the second coin; what it begins puts a share.
        self.assertEqual(ledger(net, events), ([[(1, 2), (5, 6)]], [(3, 0, 0), (7, 0, 1)]))
        self.assertEqual(ran(net, events)[1], [(1, 0)])

    def test_several_coins_of_one_event(self):
        net = net_of((ask("b", 2, "p"),), (ask("c", 2, "q"),), (ask("d", 2, "p"),), (),
                     purses=(("p", "first", 1), ("q", "any", 1)))
        self.assertEqual(ledger(net, [FRESH]), ([[(1,), (3,)], [(2,)]], []))

    def test_refused(self):
        net = net_of((ask("b", 0, "p"),), (), purses=(("p", "first", 2),))
        for at, events in ((0, [("up", 0)]), (2, [FRESH, ("ends", 1, "bad"), ("again", 0), ("up", 0)]), (1, [FRESH, FRESH[0]])):
            with self.assertRaises(NoEvent) as caught:
                ledger(net, events)
            self.assertEqual(caught.exception.at, at)
        for thing in STRANGE:
            with self.assertRaises(NoEvent) as caught:
                ledger(net, [FRESH, thing])
            self.assertEqual(caught.exception.at, 1)

    def test_nets_without_a_small_yard_have_ledgers(self):
        net = net_of((ask("b", 4, "p"),), (ask("c", 4, "p"),), (ask("d", 4, "p"),), (), purses=(("p", "any", 1),))
        self.assertEqual(ledger(net, [FRESH]), ([[(1,), (2,), (3,)]], []))


class ByChance(unittest.TestCase):
    """[8.3] over runs by chance."""

    def test_as_the_errands_show(self):
        paid = 0
        for seed in range(400):
            net = some_net(seed)
            events, world = some_run(net, seed, 60)
            found = ledger(net, events)
            self.assertEqual(found, by_hand(net, world.told()[0]))
            self.assertEqual(found, ledger(net, tuple(events)))
            self.check(net, found, ran(net, events)[1])
            paid += len(found[1])
        self.assertGreater(paid, 400)

    def check(self, net, found, purses):
        coins, payments = found
        for at, (name, earns, per) in enumerate(net[1]):
            shares = [errand for coin in coins[at] for errand in coin]
            self.assertEqual(shares, sorted(set(shares)))
            self.assertTrue(all(len(coin) == per for coin in coins[at]))
            taken = [coin for errand, purse, coin in payments if purse == at]
            self.assertEqual(taken, list(range(len(taken))))
            self.assertEqual(purses[at][1], len(coins[at]) - len(taken))
            self.assertLess(purses[at][0], per)
        for errand, purse, coin in payments:
            self.assertLess(max(coins[purse][coin]), errand)
        self.assertEqual(payments, sorted(payments))

    def test_each_list_told_is_a_new_one(self):
        for seed in range(30):
            net = some_net(seed)
            events, world = some_run(net, seed, 40)
            kept = copy.deepcopy(events)
            first = ledger(net, events)
            told = copy.deepcopy(first)
            first[0].append(1)
            first[1].append(1)
            for purse in first[0][:-1]:
                purse.append(1)
            self.assertEqual(ledger(net, events), told)
            self.assertEqual(events, kept)


if __name__ == "__main__":
    unittest.main()
