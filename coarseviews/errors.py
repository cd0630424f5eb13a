"""The errors of the package, one for each kind of failure."""


class CoarseError(ValueError):
    """Every error that the package raises."""


class NoMany(CoarseError):
    """A number of states is not an integer from 1 to 7."""


class NoSet(CoarseError):
    """A set, or a tuple of sets, is not what is required of it."""


class NoLabels(CoarseError):
    """Labels are not a tuple of 1 to 7 integers."""


class NoEdge(CoarseError):
    """A set that should be forbidden is not an edge."""


class NoDeed(CoarseError):
    """A deed does not have the form of one."""


class NoScale(CoarseError):
    """A value is not a Scale."""


class NoStep(CoarseError):
    """A value is not a Step, or does not make one."""


class OtherStates(CoarseError):
    """Two things that belong together have different numbers of states."""


class NotBelow(CoarseError):
    """The high scale is not finer than the low one."""


class NoText(CoarseError):
    """A value is not the text of what is read."""


class NotClosed(CoarseError):
    """Two sets are given without the set of their common states."""

    def __init__(self, first, second):
        super().__init__("the common states of two of the sets are missing")
        self.first = first
        self.second = second


class TooMany(CoarseError):
    """An amount is above its limit."""

    def __init__(self, amount, limit):
        super().__init__("there are more of them than the limit lets")
        self.amount = amount
        self.limit = limit
