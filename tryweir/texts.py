"""Texts of nets, ratios and events, written and read."""

from tryweir.errors import NoText
from tryweir.nets import is_net
from tryweir.ratios import is_ratio

MOST_RATIO_FIGURES = 300
MOST_EVENT_FIGURES = 60
HEARS = {"hears": True, "deaf": False}
SURE = {"sure": True, "lossy": False}
ENDS = ("well", "bad", "spent")


def check_text(thing):
    """Refuses what is no text at all."""
    if not isinstance(thing, str):
        raise NoText("this is no text")


def number_in(word, most):
    """The number that a word writes by at most so many figures, the first no nought but of 0 itself; or None."""
    if not 1 <= len(word) <= most or not all(["0" <= sign <= "9" for sign in word]):
        return None
    return None if word[0] == "0" and len(word) > 1 else int(word)


def ask_text(ask):
    """The text of an ask."""
    tries = "ever" if ask[1] == 0 else str(ask[1])
    purse = "-" if ask[2] is None else ask[2]
    return " ".join(["ask", ask[0], tries, purse, ask[3], "hears" if ask[4] else "deaf", "sure" if ask[5] else "lossy"])


def net_text(net):
    """The text of a net."""
    parts = []
    for name, asks in net[0]:
        parts.append(f"house {name}")
        parts.extend([ask_text(ask) for ask in asks])
    parts.extend([f"purse {name} {earns} {per}" for name, earns, per in net[1]])
    return "; ".join(parts)


def ask_in(words):
    """The ask that these words tell, with None for what tells nothing."""
    tries = 0 if words[2] == "ever" else number_in(words[2], 1)
    purse = None if words[3] == "-" else words[3]
    return (words[1], tries, purse, words[4], HEARS.get(words[5]), SURE.get(words[6]))


def read_part(houses, purses, words):
    """Adds to the houses, to the asks of the last one, or to the purses, what a part's words tell."""
    if words[0] == "house" and len(words) == 2 and len(purses) == 0:
        houses.append((words[1], []))
    elif words[0] == "ask" and len(words) == 7 and len(purses) == 0 and len(houses) > 0:
        houses[-1][1].append(ask_in(words))
    elif words[0] == "purse" and len(words) == 4:
        purses.append((words[1], words[2], number_in(words[3], 1)))
    else:
        raise NoText("no part of a net's text is so")


def read_net(text):
    """The net of a text."""
    check_text(text)
    houses = []
    purses = []
    for part in text.split("; "):
        read_part(houses, purses, part.split(" "))
    net = (tuple([(name, tuple(asks)) for name, asks in houses]), tuple(purses))
    # What is read may be written in one way alone: so 0 tries, which ever again is kept as, are no text of it.
    if not is_net(net) or net_text(net) != text:
        raise NoText("this is no text of a net")
    return net


def ratio_text(one):
    """The text of a ratio."""
    return "/".join([str(number) for number in (one if one[1] != 1 else one[:1])])


def read_ratio(text):
    """The ratio of a text."""
    check_text(text)
    words = text.split("/")
    is_below = text.startswith("-")
    top = number_in(words[0][1:] if is_below else words[0], MOST_RATIO_FIGURES)
    bottom = 1 if len(words) == 1 else number_in(words[1], MOST_RATIO_FIGURES)
    if top is None or bottom is None:
        raise NoText("this is no text of a ratio")
    one = (-top if is_below else top, bottom)
    # What is read may be written in one way alone: no -0, no bottom of 1, nothing behind it.
    if not is_ratio(one) or ratio_text(one) != text:
        raise NoText("this is no text of a ratio")
    return one


def event_text(event):
    """The text of an event."""
    return " ".join([event[0]] + [str(part) for part in event[1:]])


def read_event(text):
    """The event of a text."""
    check_text(text)
    words = text.split(" ")
    if text == "fresh":
        return ("fresh",)
    number = None if len(words) == 1 else number_in(words[1], MOST_EVENT_FIGURES)
    if number is not None:
        if words[0] == "ends" and len(words) == 3 and words[2] in ENDS:
            return ("ends", number, words[2])
        if words[0] in ("lost", "again", "up") and len(words) == 2:
            return (words[0], number)
    raise NoText("this is no text of an event")
