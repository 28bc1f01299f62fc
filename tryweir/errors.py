"""The refusals: each a class of its own, straight beneath WeirError."""


class WeirError(ValueError):
    """What all refusals of this program stand beneath."""


class NoRatio(WeirError):
    """Of these two a ratio can't be made."""


class NoHouse(WeirError):
    """No house has this number or name."""


class NoAsk(WeirError):
    """The house has no such ask, or it is an ever one."""


class NoPurse(WeirError):
    """No purse has this number."""


class TooMany(WeirError):
    """The yard of a net has too many places or deeds."""


class NoText(WeirError):
    """This is no text of a net, of a ratio or of an event."""


class NoRow(WeirError):
    """The desk knows no such row."""


class NoNet(WeirError):
    """The desk has no net yet."""


class NoPast(WeirError):
    """There is no event to take back."""


class NoDeed(WeirError):
    """The deed with this number in a row can't be done."""

    def __init__(self, at):
        self.at = at


class NoEvent(WeirError):
    """The event with this number in a run can't come."""

    def __init__(self, at):
        self.at = at
