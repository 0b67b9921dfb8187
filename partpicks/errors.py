"""The errors of the package, each one for a single kind of failure."""


class NoName(LookupError):
    """There is no hit with this name."""

    def __init__(self, name):
        self.name = name


class NoKind(LookupError):
    """The hits have no labels of this kind."""

    def __init__(self, kind):
        self.kind = kind


class NoNumber(LookupError):
    """There is nothing with this number."""

    def __init__(self, number):
        self.number = number


class NothingDone(LookupError):
    """There is no deed that could be taken back."""


class Twice(ValueError):
    """There is a hit with this name already."""

    def __init__(self, name):
        self.name = name


class NoParts(ValueError):
    """These are no parts of the hits."""


class NoTree(ValueError):
    """This is no tree of the parts."""


class NoPaper(ValueError):
    """There is nothing that shows it."""


class BadText(ValueError):
    """Nothing is written like this."""


class BadLine(ValueError):
    """The line with this number is not written as it must be."""

    def __init__(self, number):
        self.number = number
