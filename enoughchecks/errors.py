"""The errors of the package, one class for each kind of failure."""


class CheckError(ValueError):
    """The base of all errors of the package; most of them are made with nothing."""

    def __init__(self):
        """Take nothing, so that an error without fields is made with just that."""


class BadWeb(CheckError):
    """Places or arrows that make no web: which part of them is wrong, and at which index."""

    def __init__(self, part, at):
        self.part = part
        self.at = at


class TooMany(CheckError):
    """There are more than the most that may be listed or tried."""

    def __init__(self, most):
        self.most = most


class BadText(CheckError):
    """A text that cannot be read: the line that is wrong, counted from 1, or 0."""

    def __init__(self, line):
        self.line = line


class NoName(CheckError):
    """A name under which nothing is kept."""

    def __init__(self, name):
        self.name = name


class NoAnswer(CheckError):
    """A check for which a judge gives no flag."""

    def __init__(self, check):
        self.check = check


class NoWay(CheckError):
    """What should be a way of the web is none."""


class NoPlace(CheckError):
    """What should be a place of the web is none."""


class NoNumber(CheckError):
    """What should be a number within the bounds is none."""


class NoOrder(CheckError):
    """What should be a tuple of all places, each once, is none."""


class NoArrow(CheckError):
    """What should be an arrow of the web, or become one, cannot be one."""


class NoChecks(CheckError):
    """What should be checks of the web is none."""


class NoWorld(CheckError):
    """What should be a world of the web is none."""


class NoThing(CheckError):
    """What should be a thing of a place is none."""


class NoPair(CheckError):
    """Two ways that have other ends."""


class NotEnough(CheckError):
    """Checks that should be enough are not."""


class NoExchange(CheckError):
    """What should be an exchange in a way is none."""


class NoList(CheckError):
    """What should be a least list is none."""


class NoPrices(CheckError):
    """What should be prices, one for each check, is none."""


class NoSort(CheckError):
    """What should be a sort of told arrows is none."""


class NoTold(CheckError):
    """What should be a lot of told arrows is none."""


class NoRoot(CheckError):
    """A place that does not reach all others."""


class NoFailed(CheckError):
    """What should be a lot of failed checks is none."""


class NoCheck(CheckError):
    """What should be a check of the web is none."""


class NothingDone(CheckError):
    """There is nothing that could be taken back."""


class NoLine(CheckError):
    """What should be a line for the desk is none."""
