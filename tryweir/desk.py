"""A desk: it keeps a net and a run, and answers rows."""

from tryweir.calm import calm
from tryweir.errors import NoEvent, NoHouse, NoNet, NoPast, NoRow, NoText
from tryweir.images import net_toll, owed
from tryweir.limits import most_tries
from tryweir.nets import number_of
from tryweir.netyard import yard_of
from tryweir.runs import check_event, let_come, may_come, run_load, run_of, run_pay
from tryweir.texts import MOST_EVENT_FIGURES, event_text, net_text, number_in, ratio_text, read_event, read_net
from tryweir.texts import read_ratio
from tryweir.words import is_word

MOST_EVENTS = 2000
EVENTS = ("fresh", "ends", "lost", "again", "up")


def is_asked(words):
    """Whether a row's words, no event's, have the count and the forms that the first of them asks for."""
    if words[0] in ("load", "toll", "owed"):
        return len(words) == 2 and is_word(words[1])
    if words[0] == "most":
        if len(words) != 5 or words[4] == "" or not is_word(words[1]) or not is_word(words[3]):
            return False
        return number_in(words[2], MOST_EVENT_FIGURES) is not None
    return words in (["back"], ["net"], ["may"], ["pay"], ["calm"])


def check_row(row):
    """Refuses a row that the desk doesn't know."""
    if not isinstance(row, str):
        raise NoRow("this is no text")
    words = row.split(" ")
    if words[0] in EVENTS:
        try:
            read_event(row)
        except NoText:
            raise NoRow("no event is written so") from None
    elif not row.startswith("net ") and not is_asked(words):
        raise NoRow("no row is so")


def house_named(desk, name):
    """The number of the house with this name."""
    if name not in [house[0] for house in desk.net[0]]:
        raise NoHouse("no house has this name")
    return number_of(desk.net[0], name)


def take_net(desk, text):
    """Another net comes, with an empty run."""
    desk.net = read_net(text)
    desk.events = []
    desk.run = None
    return "ok"


def take_event(desk, event):
    """An event comes."""
    if len(desk.events) == MOST_EVENTS:
        raise NoEvent(MOST_EVENTS)
    if desk.run is None:
        desk.run = run_of(desk.net, desk.events)
    check_event(desk.run, event)
    let_come(desk.run, event)
    desk.events.append(event)
    return "ok"


def take_back(desk):
    """The last event is taken back."""
    if len(desk.events) == 0:
        raise NoPast("there is no event to take back")
    desk.events.pop()
    # A run goes on alone: it is made anew when the next event comes.
    desk.run = None
    return "ok"


def told_toll(desk, name):
    """The toll at a house."""
    told = net_toll(desk.net, house_named(desk, name))
    return "swells" if told[0] == "swells" else ratio_text(told[1][0])


def told_owed(desk, name):
    """What is owed for a house, by the paper of its toll."""
    house = house_named(desk, name)
    told = net_toll(desk.net, house)
    return "swells" if told[0] == "swells" else ratio_text(owed(desk.net, house, told[1], desk.events))


def told_most(desk, words):
    """The most tries of an ask with which the net keeps to a toll."""
    limit = read_ratio(words[4])
    if limit[0] < 0:
        raise NoText("no toll is below nought")
    at = house_named(desk, words[1])
    house = house_named(desk, words[3])
    told = most_tries(desk.net, house, at, number_in(words[2], MOST_EVENT_FIGURES), limit)
    return "none" if told[0] == "none" else str(told[1])


def told_of_house(desk, words):
    """The answer to a row with the name of one house."""
    if words[0] == "load":
        return str(run_load(desk.net, desk.events, house_named(desk, words[1])))
    if words[0] == "toll":
        return told_toll(desk, words[1])
    return told_owed(desk, words[1])


def told_of_all(desk, word):
    """The answer to a row of one word."""
    if word == "back":
        return take_back(desk)
    if word == "net":
        return net_text(desk.net)
    if word == "may":
        return ", ".join([event_text(event) for event in may_come(desk.net, desk.events)])
    if word == "pay":
        return str(run_pay(desk.events))
    return calm(yard_of(desk.net, 0))[0]


def answer(desk, row):
    """The answer to a row."""
    check_row(row)
    words = row.split(" ")
    if row.startswith("net "):
        return take_net(desk, row[len("net "):])
    if desk.net is None:
        raise NoNet("the desk has no net")
    if words[0] in EVENTS:
        return take_event(desk, read_event(row))
    if words[0] == "most":
        return told_most(desk, words)
    if len(words) == 2:
        return told_of_house(desk, words)
    return told_of_all(desk, words[0])


class Desk:
    """A desk: its net, the events of its run, and the run itself as far as it was made."""

    def __init__(self):
        self.net = None
        self.events = []
        self.run = None

    def say(self, row):
        """The answer to a row, or its refusal."""
        return answer(self, row)
