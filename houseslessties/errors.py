"""The errors of the package; each keeps what it was made with."""


class NetError(ValueError):
    """The base class of what is wrong with a thing as a whole, or with a place in it."""


class BadMachine(NetError):
    """No tables of a machine."""

    def __init__(self, at):
        self.at = at


class BadWeb(NetError):
    """No houses and ties of a web."""

    def __init__(self, at):
        self.at = at


class BadRow(NetError):
    """No row of deeds."""

    def __init__(self, at):
        self.at = at


class BadSteps(NetError):
    """No steps, walk or meetings."""

    def __init__(self, at):
        self.at = at


class BadText(NetError):
    """No text of the form that is read."""

    def __init__(self, at):
        self.at = at


class Refused(NetError):
    """A value that cannot be taken there."""

    def __init__(self, at):
        self.at = at


class TooGreat(NetError):
    """More things than a search may look at."""

    def __init__(self, most):
        self.most = most


class Untold(NetError):
    """Three states that do not tell their join."""

    def __init__(self, archive, here, there):
        self.archive = archive
        self.here = here
        self.there = there


class Uncommuting(NetError):
    """Two deeds that lead a state elsewhere in the other order."""

    def __init__(self, state, one, other):
        self.state = state
        self.one = one
        self.other = other


class NoState(KeyError):
    """A value that is no state of the machine."""

    def __init__(self, state):
        self.state = state


class NoDeed(KeyError):
    """A value that is no deed of the machine."""

    def __init__(self, deed):
        self.deed = deed


class NoHouse(KeyError):
    """A value that is no house of the web."""

    def __init__(self, house):
        self.house = house


class NoTie(KeyError):
    """A value that is no tie of the web."""

    def __init__(self, tie):
        self.tie = tie
