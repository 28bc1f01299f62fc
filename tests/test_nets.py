import random
import unittest

from helper import STRANGE, nested
from tryweir.errors import NoHouse
from tryweir.nets import begun_by, is_net, reaches

PURSES = (("one", "first", 1), ("two", "any", 9))


def ask(to="c", tries=1, purse=None, word="bad", hears=True, sure=False):
    return (to, tries, purse, word, hears, sure)


def net_of(*asks, purses=PURSES, names="abcd"):
    """A net whose houses, in order, have these asks."""
    return (tuple((name, tuple(own)) for name, own in zip(names, asks)), purses)


def with_ask(one):
    return net_of((one,), (), ())


class Judged(unittest.TestCase):
    """[7.1]: what is a net."""

    def good(self, *nets):
        for net in nets:
            self.assertIs(is_net(net), True, net)

    def bad(self, *things):
        for thing in things:
            self.assertIs(is_net(thing), False, repr(thing)[:200])

    def test_how_many_houses(self):
        self.good(net_of(()), net_of((), ()), net_of((), (), ()), net_of((), (), (), ()))
        self.bad(net_of(), net_of((), (), (), (), (), names="abcde"))

    def test_how_many_purses(self):
        self.good(net_of((), purses=()), net_of((), purses=PURSES[:1]), net_of((), purses=PURSES))
        self.bad(net_of((), purses=PURSES + (("three", "any", 2),)))

    def test_how_many_asks(self):
        three = (ask("d"),) * 3
        self.good(net_of(three, three, (), ()), net_of(three, (), (), ()), net_of(three[:2], three[:2], three[:2], ()))
        self.bad(net_of(three + three[:1], (), (), ()), net_of(three, three, three[:1], ()), net_of(three, three, three, ()),
                 net_of(three[:2], three[:2], three, ()))

    def test_names(self):
        for name in ("a", "z", "abcdefgh", "zzzzzzzz"):
            self.good(((("b", (ask(name),)), (name, ())), ()), ((("b", ()),), ((name, "any", 1),)))
        for name in ("", "abcdefghi", "A", "a1", "a b", "a-", " a", "a\n", "\u00e9", None, 1, True, ("a",), ["a"], ()):
            self.bad((((name, ()),), ()), ((("b", ()), (name, ())), ()), ((("b", ()),), ((name, "any", 1),)),
                     ((("b", (ask(name),)), (name, ())), ()))

    def test_names_that_stand_twice(self):
        self.bad(net_of((), (), names="aa"), net_of((), (), (), names="aba"), net_of((), (), (), (), names="abcb"),
                 net_of((), purses=(("one", "any", 1), ("one", "first", 2))))
        # A house and a purse may be alike.
        self.good(net_of((), purses=(("a", "any", 1),)), ((("a", (ask("b", 2, "b"),)), ("b", ())), (("b", "any", 1),)))

    def test_whom_an_ask_asks(self):
        self.good(net_of((ask("b"), ask("c"), ask("d")), (ask("c"), ask("d")), (ask("d"),), ()), net_of((ask("b"), ask("b")), ()))
        self.bad(net_of((ask("a"),), ()), net_of((), (ask("a"),)), net_of((), (ask("b"),)), net_of((), (), (), (ask("a"),)),
                 net_of((ask("b"),)), net_of((ask("x"),), ()), net_of((ask("one"),), ()), net_of((ask("b"), ask("x")), ()),
                 net_of((ask("b"),), (ask("c"),), (ask("b"),)))
        self.bad(*(with_ask(ask(to)) for to in (None, True, 1, 2, "", "cc", ("c",), ["c"], ())))

    def test_tries(self):
        self.good(*(with_ask(ask(tries=tries)) for tries in range(5)))
        self.bad(*(with_ask(ask(tries=tries)) for tries in (-1, 5, 10 ** 60, True, False, None, "1", (1,), [1])))

    def test_purses_of_asks(self):
        self.good(*(with_ask(ask(purse=purse)) for purse in (None, "one", "two")))
        self.bad(*(with_ask(ask(purse=purse)) for purse in ("three", "", "a", "on", 0, 1, True, False, (), ("one",), ["one"])))
        self.bad(net_of((ask("b", 1, "one"),), (), purses=()), net_of((ask("b", 1, "two"),), (), purses=PURSES[:1]))

    def test_words(self):
        self.good(with_ask(ask(word="bad")), with_ask(ask(word="spent")))
        self.bad(*(with_ask(ask(word=word)) for word in ("well", "Bad", "", "b", "badspent", None, 0, True, ("bad",), ["bad"])))

    def test_hears_and_sure(self):
        for truth in (True, False):
            self.good(with_ask(ask(hears=truth)), with_ask(ask(sure=truth)))
        for other in (0, 1, None, "True", "", (), [], (True,), "hears"):
            self.bad(with_ask(ask(hears=other)), with_ask(ask(sure=other)))

    def test_what_purses_earn(self):
        self.good(*(net_of((), purses=(("p", earns, per),)) for earns in ("first", "any") for per in range(1, 10)))
        self.bad(*(net_of((), purses=(("p", earns, 2),)) for earns in ("", "all", "First", "firs", None, True, 1, ("any",), ["any"])))
        self.bad(*(net_of((), purses=(("p", "any", per),)) for per in (0, 10, -1, 10 ** 60, True, False, None, "1", (1,), [1])))
        self.bad(net_of((), purses=(("one", "any", 1), ("two", "any", 0))))

    def test_lists_for_tuples(self):
        self.bad([(("a", ()),), ()], ([("a", ())], ()), ((["a", ()],), ()), ((("a", []),), ()), ((("a", ()),), []),
                 ((("a", ()),), [("p", "any", 1)]), ((("a", ()),), (["p", "any", 1],)), ((("a", [ask("b")]), ("b", ())), ()),
                 ((("a", (list(ask("b")),)), ("b", ())), ()))

    def test_other_forms(self):
        whole = ask()
        self.bad((), ((),), ((("a", ()),),), ((("a", ()),), (), ()), (("a", ()), ()), ((("a",),), ()), ((("a", (), ()),), ()),
                 ((("a", None),), ()), ((("a", ""),), ()), ((("a", 0),), ()), ((("a", ()),), None), (None, ()), ("a", ()),
                 ((("a", ()),), ""), ((("a", ()),), (("p", "any"),)), ((("a", ()),), (("p", "any", 1, 1),)), ((("a", ()),), ("pan",)),
                 (("ab",), ()), with_ask(whole[:5]), with_ask(whole + (True,)), with_ask(()), with_ask(None), with_ask("abcdef"),
                 with_ask([whole]), ((("a", ask("b")), ("b", ())), ()))

    def test_anything(self):
        for thing in STRANGE + (nested(30), (nested(29), ()), ((("a", nested(26)),), ()), tuple(range(4000)),
                                (tuple(range(3990)), ()), ((("a", tuple(range(3000))),), ())):
            self.assertIs(is_net(thing), False, repr(thing)[:80])


class Reaches(unittest.TestCase):
    """The interface: reaches and begun_by."""

    CHAIN = net_of((ask("b"),), (ask("c"),), (ask("d"),), ())
    SPLIT = net_of((ask("d"), ask("b")), (ask("d"), ask("d")), (ask("d"),), ())
    APART = net_of((ask("c"),), (ask("d"), ask("c")), (), ())

    def test_chains(self):
        for house in range(4):
            for other in range(4):
                self.assertIs(reaches(self.CHAIN, house, other), other >= house)

    def test_several_asks(self):
        reached = {(0, 1), (0, 3), (1, 3), (2, 3)}
        for house in range(4):
            for other in range(4):
                self.assertIs(reaches(self.SPLIT, house, other), house == other or (house, other) in reached)

    def test_apart(self):
        reached = {(0, 2), (1, 2), (1, 3)}
        for house in range(4):
            for other in range(4):
                self.assertIs(reaches(self.APART, house, other), house == other or (house, other) in reached)

    def test_begun_by(self):
        for net, lists in ((self.CHAIN, ([0, 1, 2, 3], [1, 2, 3], [2, 3], [3])), (self.SPLIT, ([0, 3], [1, 3], [2, 3], [3])),
                           (self.APART, ([0, 2], [1, 3], [2], [3])), (net_of(()), ([0],)),
                           (net_of((ask("b"), ask("c")), (ask("c"),), ()), ([0, 1, 2], [1, 2], [2]))):
            for house, begun in enumerate(lists):
                found = begun_by(net, house)
                self.assertEqual(found, begun)
                self.assertIs(type(found), list)
                found.append(7)
                self.assertEqual(begun_by(net, house), begun)

    def test_no_house(self):
        for net in (self.CHAIN, net_of(()), net_of((ask("b"),), ())):
            count = len(net[0])
            for number in (-1, -count, count, count + 1, 10 ** 60, -10 ** 60):
                for call in (lambda: begun_by(net, number), lambda: reaches(net, number, 0), lambda: reaches(net, 0, number),
                             lambda: reaches(net, number, number)):
                    with self.assertRaises(NoHouse):
                        call()

    def test_by_chance(self):
        for seed in range(100):
            chance = random.Random(seed)
            asked = [[chance.randrange(house + 1, 4) for time in range(chance.randint(0, 2))] if house < 3 else [] for house in range(4)]
            net = net_of(*[[ask("abcd"[to]) for to in own] for own in asked])
            self.assertIs(is_net(net), True)
            for house in range(4):
                found = {house}
                while any(to not in found for one in found for to in asked[one]):
                    found |= {to for one in found for to in asked[one]}
                self.assertEqual([reaches(net, house, other) for other in range(4)], [other in found for other in range(4)])


if __name__ == "__main__":
    unittest.main()
