import random
import unittest

from helper import ABOVE, MANY, MORE, STRANGE, nested, some_net, some_run
from tryweir.calm import calm
from tryweir.desk import Desk
from tryweir.errors import NoAsk, NoEvent, NoHouse, NoNet, NoPast, NoRow, NoText, TooMany, WeirError
from tryweir.images import net_toll, owed
from tryweir.limits import most_tries
from tryweir.netyard import yard_of
from tryweir.ratios import ratio
from tryweir.runs import may_come, run_load, run_pay
from tryweir.texts import event_text, net_text, ratio_text

TEXT = "house front; ask store 3 - bad hears lossy; house store"
HELD = "house a; ask b ever p bad hears sure; house b; purse p first 2"
SWELLS = "house a; ask b ever - bad hears sure; house b"
GREAT = (net_text(ABOVE), net_text(MORE))


def desk_with(*rows):
    desk = Desk()
    for row in rows:
        desk.say(row)
    return desk


class Desks(unittest.TestCase):
    def refused(self, desk, row, error, at=None):
        """The row is refused just so, and changes nothing."""
        before = self.seen(desk)
        with self.assertRaises(WeirError, msg=repr(row)) as caught:
            desk.say(row)
        self.assertIs(type(caught.exception), error, row)
        if at is not None:
            self.assertEqual(caught.exception.at, at)
        self.assertEqual(self.seen(desk), before)

    def seen(self, desk):
        try:
            return [desk.say(row) for row in ("net", "may", "pay")]
        except NoNet:
            return None

    def told(self, desk, *pairs):
        for row, answer in pairs:
            found = desk.say(row)
            self.assertEqual(found, answer, row)
            self.assertIs(type(found), str)


class Answers(Desks):
    """[13.2]: each row and its answer."""

    def test_a_net_and_a_run(self):
        self.told(Desk(), ("net " + TEXT, "ok"), ("net", TEXT), ("pay", "0"), ("load front", "0"), ("load store", "0"), ("may", "fresh"),
                  ("fresh", "ok"), ("may", "fresh, ends 1 bad, ends 1 spent, ends 1 well, lost 1"), ("pay", "1"), ("load front", "1"),
                  ("lost 1", "ok"), ("may", "fresh, again 0, up 0, ends 1 bad, ends 1 spent, ends 1 well"), ("again 0", "ok"),
                  ("load store", "2"), ("ends 1 spent", "ok"), ("ends 2 bad", "ok"), ("may", "fresh, again 0, up 0"), ("up 0", "ok"),
                  ("may", "fresh"), ("load store", "2"), ("pay", "1"), ("net", TEXT))

    def test_tolls(self):
        self.told(desk_with("net " + TEXT), ("toll front", "1"), ("toll store", "3"))
        self.told(desk_with("net " + HELD), ("toll a", "1"), ("toll b", "3/2"))
        self.told(desk_with("net " + SWELLS), ("toll a", "1"), ("toll b", "swells"))
        self.told(desk_with("net house a; house b"), ("toll b", "0"))

    def test_owed(self):
        self.told(desk_with("net " + TEXT), ("owed store", "0"), ("fresh", "ok"), ("owed store", "2"), ("lost 1", "ok"), ("owed store", "2"),
                  ("again 0", "ok"), ("owed store", "1"), ("ends 2 well", "ok"), ("owed store", "0"))
        self.told(desk_with("net " + HELD), ("fresh", "ok"), ("owed b", "1/2"), ("owed a", "0"))
        self.told(desk_with("net " + SWELLS), ("owed b", "swells"), ("fresh", "ok"), ("owed b", "swells"), ("owed a", "0"))

    def test_calm(self):
        self.told(desk_with("net " + TEXT), ("calm", "calm"), ("fresh", "ok"), ("calm", "calm"))
        self.told(desk_with("net " + SWELLS), ("calm", "rings"))
        self.told(desk_with("net " + HELD), ("calm", "calm"))

    def test_most(self):
        self.told(desk_with("net " + TEXT), ("most front 0 store 1/2", "none"), ("most front 0 store 1", "1"), ("most front 0 store 5/2", "2"),
                  ("most front 0 store 3", "3"), ("most front 0 store 4", "4"), ("most front 0 store 999", "4"), ("most front 0 front 1", "4"),
                  ("most front 0 front 0", "none"), ("net", TEXT))
        desk = desk_with("net house a; ask c 2 - bad hears sure; ask b 2 - bad hears sure; house b; ask c 2 - bad hears sure; house c")
        self.told(desk, ("toll c", "6"), ("most a 0 c 7", "3"), ("most a 1 c 7", "2"), ("most b 0 c 7", "2"), ("most b 0 b 2", "4"), ("most b 0 b 1", "none"))

    def test_back(self):
        desk = desk_with("net " + TEXT, "fresh", "lost 1", "again 0")
        self.told(desk, ("load store", "2"), ("back", "ok"), ("load store", "1"), ("may", "fresh, again 0, up 0, ends 1 bad, ends 1 spent, ends 1 well"),
                  ("again 0", "ok"), ("load store", "2"), ("back", "ok"), ("back", "ok"), ("back", "ok"), ("pay", "0"), ("may", "fresh"))
        self.refused(desk, "back", NoPast)
        self.told(desk, ("fresh", "ok"), ("pay", "1"))

    def test_back_behind_a_refused_event(self):
        desk = desk_with("net " + TEXT, "fresh", "lost 1")
        self.refused(desk, "lost 1", NoEvent, 2)
        # What was refused is no event of the run: the one ahead of it is taken back.
        self.told(desk, ("back", "ok"), ("may", "fresh, ends 1 bad, ends 1 spent, ends 1 well, lost 1"))
        self.refused(desk, "up 0", NoEvent, 1)
        self.told(desk, ("lost 1", "ok"), ("up 0", "ok"), ("back", "ok"), ("back", "ok"), ("back", "ok"))
        self.refused(desk, "back", NoPast)

    def test_a_new_net_empties_the_run(self):
        desk = desk_with("net " + TEXT, "fresh", "fresh", "net " + HELD)
        self.told(desk, ("pay", "0"), ("may", "fresh"), ("net", HELD))
        self.refused(desk, "ends 1 bad", NoEvent, 0)
        self.refused(desk, "back", NoPast)
        self.told(desk, ("fresh", "ok"), ("net " + HELD, "ok"), ("pay", "0"))
        self.refused(desk, "load store", NoHouse)

    def test_two_desks_keep_apart(self):
        one, other = desk_with("net " + TEXT, "fresh"), Desk()
        self.refused(other, "pay", NoNet)
        self.told(other, ("net " + HELD, "ok"))
        self.told(one, ("net", TEXT), ("pay", "1"), ("fresh", "ok"))
        self.told(other, ("pay", "0"))
        other.say("net " + TEXT)
        self.told(one, ("pay", "2"), ("back", "ok"))
        self.told(other, ("pay", "0"), ("may", "fresh"))

    def test_nets_with_a_great_yard(self):
        for text in GREAT:
            desk = desk_with("net " + text)
            self.told(desk, ("net", text), ("fresh", "ok"), ("pay", "1"), ("load a", "1"), ("back", "ok"), ("may", "fresh"))
            for row in ("toll a", "owed a", "calm"):
                self.refused(desk, row, TooMany)
                self.refused(desk_with("net " + text, "fresh"), row, TooMany)
        self.refused(desk_with("net " + GREAT[0]), "most a 0 a 1", TooMany)
        # The yard with 4 tries is what counts.
        desk = desk_with("net " + net_text(MANY))
        self.assertEqual(desk.say("toll a"), "1")
        self.refused(desk, "most a 0 a 1", TooMany)

    def test_by_chance(self):
        kinds = set()
        for seed in range(120):
            net = some_net(seed)
            desk = desk_with("net " + net_text(net))
            events = some_run(net, seed, 30)[0]
            for event in events:
                self.assertEqual(desk.say(event_text(event)), "ok")
            chance = random.Random(seed)
            backs = chance.randint(0, 9)
            for time in range(backs):
                self.assertEqual(desk.say("back"), "ok")
            events = events[:len(events) - backs]
            self.told(desk, ("net", net_text(net)), ("pay", str(run_pay(events))),
                      ("may", ", ".join(event_text(event) for event in may_come(net, events))))
            house = chance.randrange(len(net[0]))
            name = net[0][house][0]
            self.told(desk, (f"load {name}", str(run_load(net, events, house))))
            try:
                told = net_toll(net, house)
            except TooMany:
                for row in (f"toll {name}", f"owed {name}", "calm"):
                    self.refused(desk, row, TooMany)
                continue
            self.told(desk, ("calm", calm(yard_of(net, house))[0]))
            kinds.add(told[0])
            if told[0] == "swells":
                self.told(desk, (f"toll {name}", "swells"), (f"owed {name}", "swells"))
            else:
                self.told(desk, (f"toll {name}", ratio_text(told[1][0])), (f"owed {name}", ratio_text(owed(net, house, told[1], events))))
            self.most(desk, net, house, chance)
        self.assertEqual(kinds, {"toll", "swells"})

    def most(self, desk, net, house, chance):
        for at, (name, asks) in enumerate(net[0]):
            for number, one in enumerate(asks):
                limit = ratio(chance.randint(0, 30), chance.randint(1, 6))
                row = f"most {name} {number} {net[0][house][0]} {ratio_text(limit)}"
                try:
                    found = most_tries(net, house, at, number, limit)
                except WeirError as error:
                    self.refused(desk, row, type(error))
                else:
                    self.told(desk, (row, str(found[1]) if found[0] == "most" else "none"))


class Refusals(Desks):
    """[13.2]: each refusal, and which one is told first."""

    ROWS = ["", " ", "nets", "Net", "net\n", "back ", " back", "back 1", "backs", "may fresh", "mays", "pay front", "pay ", " pay", "pays", "calm front",
            "calm ", "load", "load ", "load front ", "load  front", "load front store", "load Front", "load 0", "load a1", "load frontfron", "load front\n",
            "toll", "toll ", "toll front store", "toll FRONT", "toll -", "owed", "owed 1", "owed front 1", "most", "most front", "most front 0",
            "most front 0 store", "most front 0 store 1 ", "most front 0 store 1 2", "most Front 0 store 1", "most front 0 Store 1", "most front x store 1",
            "most front -1 store 1", "most front 01 store 1", "most front +0 store 1", "most front 0 store ", "most 0 front store 1", "most front  store 1",
            "most front 1" + "0" * 60 + " store 1", "fresh ", "fresh 0", "Fresh", "ends", "ends 0", "ends 0 good", "ends 00 bad", "ends -1 bad", "ends 0 bad ",
            "ends 1" + "0" * 60 + " bad", "lost", "lost ", "lost x", "lost 0 bad", "lost 01", "again", "again -1", "again 1_0", "again 0 0", "up", "up +1",
            "up 1" + "0" * 60, "up \u0663", "house front", "undo", "swells", "ok", "pay\n", "\npay", "pay pay", "netpay", "NET " + TEXT, " net " + TEXT]

    def test_no_row(self):
        for desk in (Desk(), desk_with("net " + TEXT), desk_with("net " + TEXT, "fresh")):
            for row in self.ROWS:
                self.refused(desk, row, NoRow)

    def test_what_is_no_text(self):
        for desk in (Desk(), desk_with("net " + TEXT)):
            for thing in STRANGE + (nested(30), ["net"], ("net", TEXT), ("fresh",), {"net": TEXT}, 12):
                if not isinstance(thing, str):
                    self.refused(desk, thing, NoRow)

    def test_no_net(self):
        for row in ("fresh", "ends 0 bad", "lost 0", "again 0", "up 0", "back", "net", "may", "pay", "calm", "load front", "toll front", "owed front",
                    "most front 0 store 1", "most front 0 store x", "most front 0 store -1", "most front 7 store 1"):
            self.refused(Desk(), row, NoNet)

    def test_no_text_of_a_net(self):
        for desk in (Desk(), desk_with("net " + TEXT, "fresh")):
            for text in ("", " ", "x", "house", " " + TEXT, TEXT + " ", TEXT + ";", "net " + TEXT, "house A", "house a; house a", "fresh", TEXT + "\n"):
                self.refused(desk, "net " + text, NoText)

    def test_no_text_of_a_ratio(self):
        desk = desk_with("net " + TEXT)
        for text in ("x", "-1", "-1/2", "2/4", "1/0", "01", "+1", "-0", "1/1", "1.5", "1/2/3", "1\n", "9" * 301, "1/" + "9" * 301):
            self.refused(desk, f"most front 0 store {text}", NoText)
            # Ahead of houses and asks that there aren't, and of too many.
            self.refused(desk, f"most none 0 store {text}", NoText)
            self.refused(desk, f"most front 9 none {text}", NoText)
            self.refused(desk_with("net " + GREAT[0]), f"most a 0 a {text}", NoText)
        self.assertEqual(desk.say("most front 0 store " + "9" * 300), "4")

    def test_no_house(self):
        for text in (TEXT, HELD) + GREAT:
            for row in ("load none", "toll none", "owed none"):
                self.refused(desk_with("net " + text, "fresh"), row, NoHouse)
        desk = desk_with("net " + TEXT)
        for row in ("most none 0 store 1", "most front 0 none 1", "most none 9 none 1", "most front 9 none 1", "most none 9 store 1"):
            self.refused(desk, row, NoHouse)
        self.refused(desk_with("net " + GREAT[0]), "most none 0 a 1", NoHouse)
        self.refused(desk_with("net " + GREAT[0]), "most a 0 none 1", NoHouse)
        # A purse is no house.
        self.refused(desk_with("net " + HELD), "load p", NoHouse)

    def test_no_ask(self):
        desk = desk_with("net " + TEXT)
        for row in ("most front 1 store 1", "most store 0 front 1", "most front " + "9" * 60 + " store 1"):
            self.refused(desk, row, NoAsk)
        self.refused(desk_with("net " + HELD), "most a 0 b 1", NoAsk)
        self.refused(desk_with("net " + GREAT[0]), "most a 3 a 1", NoAsk)
        self.refused(desk_with("net " + GREAT[1]), "most a 0 a 1", NoAsk)

    def test_no_event(self):
        desk = desk_with("net " + TEXT)
        for row in ("ends 0 bad", "lost 0", "again 0", "up 0", "up " + "9" * 60):
            self.refused(desk, row, NoEvent, 0)
        desk.say("fresh")
        for row in ("ends 0 bad", "ends 2 bad", "lost 0", "lost 2", "again 0", "up 0", "up 1", "up " + "9" * 60):
            self.refused(desk, row, NoEvent, 1)
        desk.say("ends 1 bad")
        self.refused(desk, "ends 1 bad", NoEvent, 2)

    def test_coins_that_there_are_not(self):
        desk = desk_with("net " + HELD, "fresh", "ends 1 bad")
        self.refused(desk, "again 0", NoEvent, 2)
        self.told(desk, ("fresh", "ok"), ("again 0", "ok"))

    def test_a_2001st_event(self):
        desk = desk_with("net " + TEXT)
        for time in range(2000):
            self.assertEqual(desk.say("fresh"), "ok")
        for row in ("fresh", "ends 1 bad", "ends 0 bad", "up 0"):
            self.refused(desk, row, NoEvent, 2000)
        self.told(desk, ("pay", "2000"), ("load store", "2000"), ("back", "ok"), ("pay", "1999"), ("ends 1 bad", "ok"))
        self.refused(desk, "fresh", NoEvent, 2000)
        for time in range(2000):
            self.assertEqual(desk.say("back"), "ok")
        self.refused(desk, "back", NoPast)

    def test_no_past(self):
        desk = desk_with("net " + TEXT)
        self.refused(desk, "back", NoPast)
        self.told(desk, ("fresh", "ok"), ("back", "ok"))
        self.refused(desk, "back", NoPast)
        self.told(desk_with("net " + GREAT[0], "fresh"), ("back", "ok"))


if __name__ == "__main__":
    unittest.main()
