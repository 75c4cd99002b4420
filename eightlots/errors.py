"""The errors that the package raises."""


class NoLamp(LookupError):
    """A number that ought to be a LAMP is none."""

    def __init__(self, lamp):
        LookupError.__init__(self, f"{lamp!r} is no LAMP")
        self.lamp = lamp


class NoNumber(LookupError):
    """Nothing has this number."""

    def __init__(self, number):
        LookupError.__init__(self, f"nothing has the number {number!r}")
        self.number = number


class NoWord(LookupError):
    """A word that is not known."""

    def __init__(self, word):
        LookupError.__init__(self, f"{word!r} is not known")
        self.word = word


class NothingDone(LookupError):
    """There is nothing to be taken back or done again."""


class Unfit(ValueError):
    """What is handed in does not fit."""


class NoPaper(ValueError):
    """There is no such PAPER."""


class NoWay(ValueError):
    """There is no such thing."""


class BadLine(ValueError):
    """The line of this number can not stand there, or lacks."""

    def __init__(self, number):
        ValueError.__init__(self, f"line {number!r} is bad")
        self.number = number
