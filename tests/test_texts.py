import random
import unittest
from fractions import Fraction

from helper import FRESH, STRANGE, ask, nested, net_of, some_net, some_run
from tryweir.errors import NoText
from tryweir.nets import is_net
from tryweir.texts import event_text, net_text, ratio_text, read_event, read_net, read_ratio

# Figures that are not 0 to 9, though Python takes them for some.
OTHER_FIGURES = ("\u0663", "\uff11", "\u00b2", "\u0967", "\u2460")


class Texts(unittest.TestCase):
    def none_of(self, read, *texts):
        for text in texts:
            with self.assertRaises(NoText, msg=repr(text)):
                read(text)

    def things(self):
        """What is no text at all."""
        found = [thing for thing in STRANGE if not isinstance(thing, str)]
        return found + [nested(30), ("fresh",), ["fresh"], {"house": "a"}, ("house a",), 7, -1, (1, 2), net_of(())]


class Nets(Texts):
    """[13.1]: texts of nets."""

    FULL = (("front", (("store", 0, "spare", "bad", True, False), ("mail", 4, None, "spent", False, True))),
            ("store", (("mail", 1, "own", "bad", False, False),)), ("mail", ())), (("spare", "first", 2), ("own", "any", 9))
    TEXT = ("house front; ask store ever spare bad hears lossy; ask mail 4 - spent deaf sure; house store; "
            "ask mail 1 own bad deaf lossy; house mail; purse spare first 2; purse own any 9")

    def test_by_hand(self):
        self.assertEqual(net_text(self.FULL), self.TEXT)
        self.assertEqual(read_net(self.TEXT), self.FULL)
        self.assertEqual(net_text(net_of(())), "house a")
        self.assertEqual(read_net("house a"), net_of(()))
        self.assertEqual(read_net("house a; house b; purse p any 1"), net_of((), (), purses=(("p", "any", 1),)))

    def test_names_like_other_words(self):
        net = (("house", (("ask", 2, "purse", "bad", True, True),)), ("ask", ())), (("purse", "any", 3),)
        self.assertEqual(net_text(net), "house house; ask ask 2 purse bad hears sure; house ask; purse purse any 3")
        self.assertEqual(read_net(net_text(net)), net)
        net = (("bad", (("ever", 0, "any", "spent", True, True),)), ("ever", ())), (("any", "any", 3),)
        self.assertEqual(read_net(net_text(net)), net)

    def test_there_and_back(self):
        for seed in range(500):
            net = some_net(seed)
            self.assertEqual(read_net(net_text(net)), net)
            self.assertIs(is_net(read_net(net_text(net))), True)

    def test_at_the_bounds(self):
        asks = (ask("dddddddd", 4, "qqqqqqqq", "spent", False, False),) * 3
        houses = (("aaaaaaaa", asks), ("bbbbbbbb", asks), ("cccccccc", ()), ("dddddddd", ()))
        purses = (("pppppppp", "first", 1), ("qqqqqqqq", "any", 9))
        self.assertEqual(read_net(net_text((houses, purses))), (houses, purses))
        more = [(houses + (("e", ()),), purses), (houses, purses + (("r", "any", 1),)),
                ((("aaaaaaaa", asks), ("bbbbbbbb", asks), ("cccccccc", asks[:1]), ("dddddddd", ())), purses),
                ((("aaaaaaaa", asks + asks[:1]), ("dddddddd", ())), purses), ((("aaaaaaaaa", ()),), ()), (houses[::-1], purses)]
        for net in more:
            self.assertIs(is_net(net), False)
            self.none_of(read_net, net_text(net))

    def test_a_sign_more_or_fewer(self):
        for at in range(len(self.TEXT)):
            fewer = self.TEXT[:at] + self.TEXT[at + 1:]
            self.check(fewer)
            for sign in " ;-ab09\n\t\u00e4A/":
                self.check(self.TEXT[:at] + sign + self.TEXT[at:])
                self.check(self.TEXT[:at] + sign + self.TEXT[at + 1:])

    def check(self, text):
        """Either it is refused, or it is just the text of what is read."""
        try:
            net = read_net(text)
        except NoText:
            return
        self.assertIs(is_net(net), True)
        self.assertEqual(net_text(net), text)

    def test_blanks(self):
        for text in ("", " ", "house a ", " house a", "house  a", "house a;", "house a; ", "; house a", "house a;house b", "house a ; house b",
                     "house a;  house b", "house a,house b", "house a\n", "house a; house b;", "house\ta", "house a;\thouse b", "housea",
                     "house a; ; house b"):
            self.none_of(read_net, text)

    def test_words_and_parts(self):
        self.none_of(read_net, "house", "house a b", "ask b 1 - bad hears sure", "purse p any 1", "House a", "house A", "house a1", "house -",
                     "house abcdefghi", "net house a", "a", "fresh", "house a; house a", "house a; purse p any 1; purse p any 1",
                     "house a; purse p any 1; house b", "purse p any 1; house a", "house a; wallet p any 1",
                     "house a; purse p any 1; ask b 1 - bad hears sure; house b")
        whole = "house a; ask b 2 p bad hears sure; house b; purse p any 1"
        self.assertEqual(net_text(read_net(whole)), whole)
        words = whole.split(" ")
        for at in range(len(words)):
            self.none_of(read_net, " ".join(words[:at] + words[at + 1:]), " ".join(words[:at] + ["x"] + words[at:]),
                         " ".join(words[:at] + words[at:at + 1] + words[at:]))

    def test_asks(self):
        def text(*words):
            return f"house a; ask {' '.join(words)}; house b; purse p any 1"
        self.assertEqual(read_net(text("b", "2", "p", "bad", "hears", "sure"))[0][0][1], (("b", 2, "p", "bad", True, True),))
        right = ["b", "2", "p", "bad", "hears", "sure"]
        wrong = (["a", "c", "B", "", "-"], ["0", "5", "01", "+1", "-1", "1_0", "10", "1.0", "Ever", "never", "", "one"] + list(OTHER_FIGURES),
                 ["q", "P", "--", "", "None", "a"], ["well", "Bad", "", "badly"], ["hear", "Deaf", "", "True", "sure"],
                 ["sur", "loss", "", "False", "hears"])
        for at, others in enumerate(wrong):
            for other in others:
                self.none_of(read_net, text(*right[:at], other, *right[at + 1:]))
        # An ask of an earlier house, and of its own.
        self.none_of(read_net, "house a; house b; ask a 1 - bad hears sure", "house a; ask a 1 - bad hears sure",
                     "house a; ask b 1 p bad hears sure; house b")

    def test_purses(self):
        for earns in ("first", "any"):
            for per in "123456789":
                self.assertEqual(read_net(f"house a; purse p {earns} {per}")[1], (("p", earns, int(per)),))
        for rest in ("p any 0", "p any 10", "p any 01", "p any +1", "p any -1", "p any 1_", "p any", "p any 1 1", "p all 1", "p Any 1",
                     "P any 1", "- any 1", "p any one", "p any ", "p  1", " any 1") + OTHER_FIGURES + tuple(f"p any {one}" for one in OTHER_FIGURES):
            self.none_of(read_net, f"house a; purse {rest}")

    def test_no_texts(self):
        self.none_of(read_net, *self.things())


class Ratios(Texts):
    """[13.1]: texts of ratios."""

    def test_by_hand(self):
        for one, text in (((0, 1), "0"), ((1, 1), "1"), ((-1, 1), "-1"), ((10, 1), "10"), ((1, 2), "1/2"), ((-7, 3), "-7/3"), ((100, 7), "100/7")):
            self.assertEqual(ratio_text(one), text)
            self.assertEqual(read_ratio(text), one)

    def test_300_figures_and_301(self):
        most, least = 10 ** 300 - 1, 10 ** 299
        for one in ((most, 1), (-most, 1), (least, 1), (1, most), (-1, least), (most, most - 1), (-most, most - 1)):
            self.assertEqual(read_ratio(ratio_text(one)), one)
        self.assertEqual(read_ratio("9" * 300 + "/" + "1" + "0" * 299), (most, least))
        for text in ("1" + "0" * 300, "-1" + "0" * 300, "1/1" + "0" * 300, "1" + "0" * 300 + "/3", "9" * 301, "1/" + "9" * 5000, "9" * 5000,
                     "-" + "9" * 5000 + "/7", "0" * 301):
            self.none_of(read_ratio, text)
        # What is told is written, however great it is.
        self.assertEqual(ratio_text((10 ** 300, 3)), "1" + "0" * 300 + "/3")

    def test_there_and_back(self):
        chance = random.Random(13)
        for count in range(500):
            one = Fraction(chance.randint(-10 ** chance.randint(0, 60), 10 ** chance.randint(0, 60)), chance.randint(1, 10 ** chance.randint(0, 9)))
            one = (one.numerator, one.denominator)
            self.assertEqual(read_ratio(ratio_text(one)), one)

    def test_none(self):
        self.none_of(read_ratio, "", " ", "-", "/", "--1", "+1", "1 ", " 1", "1 /2", "1/ 2", "1/2 ", "2/4", "0/1", "0/2", "-0", "-0/3", "00", "01",
                     "-01", "1/02", "1/1", "-3/1", "5/0", "0/0", "1/-2", "-1/-2", "1/+2", "1/2/3", "1//2", "/2", "1/", "1_0", "1.5", "1e3", "one",
                     "0x1", "1\n", "\n1", "1/2\n", "1,2", "1:2", "(1, 2)", "None", "- 1", "-1/2-")
        for sign in OTHER_FIGURES:
            self.none_of(read_ratio, sign, "1" + sign, sign + "/7", "7/" + sign)
        self.none_of(read_ratio, *self.things())

    def test_each_short_text(self):
        # All texts of up to four of these signs: just those that are written so are read.
        signs = "-/012"
        texts = [""]
        for length in range(4):
            texts += [text + sign for text in texts if len(text) == length for sign in signs]
        written = {ratio_text(self.plain(top, bottom)) for top in range(-222, 2223) for bottom in range(1, 223)}
        for text in texts:
            if text in written:
                self.assertEqual(ratio_text(read_ratio(text)), text)
            else:
                self.none_of(read_ratio, text)

    def plain(self, top, bottom):
        one = Fraction(top, bottom)
        return one.numerator, one.denominator


class Events(Texts):
    """[13.1]: texts of events."""

    def test_each_kind(self):
        for event, text in ((FRESH, "fresh"), (("ends", 0, "well"), "ends 0 well"), (("ends", 12, "bad"), "ends 12 bad"),
                            (("ends", 3, "spent"), "ends 3 spent"), (("lost", 0), "lost 0"), (("again", 107), "again 107"), (("up", 9), "up 9")):
            self.assertEqual(event_text(event), text)
            self.assertEqual(read_event(text), event)

    def test_60_figures_and_61(self):
        for number in (10 ** 59, 10 ** 60 - 1):
            for event in (("ends", number, "bad"), ("lost", number), ("again", number), ("up", number)):
                self.assertEqual(read_event(event_text(event)), event)
        for number in (10 ** 60, 10 ** 61, 10 ** 4000):
            self.none_of(read_event, f"ends {number} bad", f"lost {number}", f"again {number}", f"up {number}")
        self.assertEqual(event_text(("up", 10 ** 60)), "up 1" + "0" * 60)

    def test_none(self):
        self.none_of(read_event, "", " ", "fresh ", " fresh", "fresh 0", "Fresh", "fresh\n", "fresher", "ends", "ends 0", "ends well", "ends 0 well ",
                     "ends 0  well", "ends  0 well", "ends 0 good", "ends 0 Well", "ends 0 well well", "ends 0 ", "ends well 0", "lost", "lost ", "lost 0 ",
                     "lost 0 bad", "lost 0 0", "lost a", "again", "again x", "up", "up up", "begin 0", "0", "0 up", "well", "up 0\n", "up\t0", "back",
                     "ends 0 ended", "works 0", "UP 0")
        for number in ("-1", "-0", "+1", "00", "01", "1_0", "1.0", "0x1", "", "one", "1/1", " 1") + OTHER_FIGURES:
            self.none_of(read_event, f"ends {number} bad", f"lost {number}", f"again {number}", f"up {number}")
        self.none_of(read_event, *self.things())

    def test_there_and_back(self):
        for seed in range(60):
            for event in some_run(some_net(seed), seed, 40)[0]:
                self.assertEqual(read_event(event_text(event)), event)


if __name__ == "__main__":
    unittest.main()
