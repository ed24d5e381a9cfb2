"""The errors of the package. Each keeps its fields as they were passed."""


class PriceError(ValueError):
    """The base of all errors of the package."""


class BadNumber(PriceError):
    """An argument that is not the number, or the row of numbers, that is wanted."""

    def __init__(self, part):
        self.part = part


class BadDay(PriceError):
    """An argument that is no day of the goods that are wanted."""

    def __init__(self, part):
        self.part = part


class BadMarket(PriceError):
    """An argument that is no market of the goods that are wanted."""

    def __init__(self, part):
        self.part = part


class BadMix(PriceError):
    """An argument that is no mix of the goods that are wanted."""

    def __init__(self, part):
        self.part = part


class BadWord(PriceError):
    """An argument that is no word of the goods that are wanted."""

    def __init__(self, part):
        self.part = part


class BadPromise(PriceError):
    """An argument that is no promise for the goods that are wanted."""

    def __init__(self, part):
        self.part = part


class BadMachine(PriceError):
    """An argument that is no Machine, or of which none can be made."""

    def __init__(self, part):
        self.part = part


class BadSeller(PriceError):
    """An argument that is no Seller, or of which none can be made."""

    def __init__(self, part):
        self.part = part


class BadCorner(PriceError):
    """An argument that is no Corner, or of which none can be made."""

    def __init__(self, part):
        self.part = part


class BadCode(PriceError):
    """An argument that is no code, no text of codes, or no list of lengths."""

    def __init__(self, part):
        self.part = part


class Misfit(PriceError):
    """An argument that is right by itself, but does not fit the others."""

    def __init__(self, part):
        self.part = part


class NoName(PriceError):
    """A name by which nothing is kept that is wanted."""

    def __init__(self, value):
        self.value = value


class Twice(PriceError):
    """A name that is kept already."""

    def __init__(self, value):
        self.value = value


class TooMany(PriceError):
    """There are more of something than may be gone through, or made."""

    def __init__(self, what, most):
        self.what = what
        self.most = most


class BadText(PriceError):
    """A text in which the item of this index cannot stand, or is missing."""

    def __init__(self, item):
        self.item = item


class BadLine(PriceError):
    """The line of this number raised this error."""

    def __init__(self, line, error):
        self.line = line
        self.error = error
