"""The errors of the package."""


class LarderdaysError(ValueError):
    """What all errors of the package are."""


class LineError(LarderdaysError):
    """A line of a text is wrong; its number is from 1."""

    def __init__(self, line):
        super().__init__(f"line {line} is wrong")
        self.line = line


class Short(LarderdaysError):
    """There is too little of a good."""

    def __init__(self, good):
        super().__init__(f"there is too little of good {good}")
        self.good = good


class PowerCut(LarderdaysError):
    """A device lost its power with so many octets on it."""

    def __init__(self, written):
        super().__init__(f"the power went behind {written} octets")
        self.written = written


class NoSuchBatch(LarderdaysError):
    """No side has this number."""

    def __init__(self, number):
        super().__init__(f"no side has the number {number}")
        self.number = number


class BadChoice(LarderdaysError):
    """A choice is none of the shop."""

    def __init__(self):
        super().__init__("this is no choice of the shop")


class ShutError(LarderdaysError):
    """A journaled ledger was used behind a power cut."""

    def __init__(self):
        super().__init__("the ledger is shut")
