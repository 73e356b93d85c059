"""The refusals of the package: classes of their own, each straight under RingError."""


class RingError(ValueError):
    """Any refusal."""


class NoRing(RingError):
    """What was handed in for a ring is none."""


class NoPrime(RingError):
    """The ring is no prime where one is due."""


class NoSet(RingError):
    """What was handed in for a set of the ring is none."""


class NoNumber(RingError):
    """What was handed in for a number is not one that is due there."""


class NoTrades(RingError):
    """What was handed in for a row of trades is none."""


class Apart(RingError):
    """A set is () where one with numbers is due."""


class NoRow(RingError):
    """What a desk was told is no row of its own, or nothing is left to undo."""


class NoList(RingError):
    """What was handed in for a list of sets is none: at is the place of the first that is no set, or -1."""

    def __init__(self, at):
        self.at = at


class NoText(RingError):
    """What was handed in writes no set: at is the number of the first wrong word, or -1."""

    def __init__(self, at):
        self.at = at


class TooGreat(RingError):
    """There are many where at most so many as most are taken."""

    def __init__(self, many, most):
        self.many = many
        self.most = most
