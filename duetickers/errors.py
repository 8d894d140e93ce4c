"""The errors of the package: each one keeps its fields as they were passed."""


class TickError(ValueError):
    """The base of all errors of the package."""


class BadNumber(TickError):
    """No integer, or none within its bounds."""

    def __init__(self, part):
        self.part = part


class BadName(TickError):
    """No name, word or text of signs, or no list of such."""

    def __init__(self, part):
        self.part = part


class BadTongue(TickError):
    """No tongue, or no names that make one."""

    def __init__(self, part):
        self.part = part


class BadProgram(TickError):
    """No program."""

    def __init__(self, part):
        self.part = part


class BadPuzzle(TickError):
    """No puzzle."""

    def __init__(self, part):
        self.part = part


class BadFactor(TickError):
    """No list of factors."""

    def __init__(self, part):
        self.part = part


class BadOrder(TickError):
    """No order, or no row that makes one."""

    def __init__(self, part):
        self.part = part


class BadDealer(TickError):
    """No first shares that make a dealer."""

    def __init__(self, part):
        self.part = part


class Misfit(TickError):
    """Something that does not fit what it was passed with."""

    def __init__(self, part):
        self.part = part


class TooMany(TickError):
    """There are more than most."""

    def __init__(self, what, most):
        self.what = what
        self.most = most


class BadText(TickError):
    """A text whose item with this index cannot stand."""

    def __init__(self, line, item):
        self.line = line
        self.item = item
