"""All errors of the package."""


class PoolError(ValueError):
    """A value that is not what it must be."""


class InvalidWeb(PoolError):
    """No web, or none that fits."""


class InvalidPool(PoolError):
    """No pool, or none that fits."""


class InvalidWord(PoolError):
    """No word of the pool, or no run."""


class InvalidRow(PoolError):
    """No row for the threads."""


class InvalidTask(PoolError):
    """No task, or none that fits."""


class InvalidRule(PoolError):
    """No rule, or none that fits."""


class InvalidKind(PoolError):
    """No kind of object."""


class InvalidMachine(PoolError):
    """No machine."""


class InvalidName(PoolError):
    """No name of an entry."""


class InvalidOperation(PoolError):
    """Something that cannot be done with these values."""


class ParseError(PoolError):
    """A text that tells no value; keeps the place."""

    def __init__(self, at):
        PoolError.__init__(self, "this text tells no value")
        self.at = at


class InvalidNumber(IndexError):
    """A number out of its bounds, or no number at all; keeps what was given."""

    def __init__(self, given):
        IndexError.__init__(self, "no number that is allowed here")
        self.given = given


class UnknownName(KeyError):
    """Something that is looked up and not there; keeps what was wanted."""

    def __init__(self, wanted):
        KeyError.__init__(self, "nothing has this name")
        self.wanted = wanted


class NothingToUndo(LookupError):
    """More steps than there are; keeps how many were to be undone."""

    def __init__(self, many):
        LookupError.__init__(self, "there are not so many steps")
        self.many = many


class TooMany(OverflowError):
    """More than a limit allows; keeps the limit."""

    def __init__(self, limit):
        OverflowError.__init__(self, "more than the limit allows")
        self.limit = limit


class Refused(ArithmeticError):
    """A change that would break a claim; keeps the claim."""

    def __init__(self, claim):
        ArithmeticError.__init__(self, "a claim would not hold")
        self.claim = claim
