"""The errors of the package."""


class LookError(ValueError):
    """The base class of all errors of the package."""


class InvalidArgument(LookError):
    """An argument is invalid."""

    def __init__(self, name):
        LookError.__init__(self, f"invalid argument: {name}")
        self.name = name


class NoSuchNode(LookError):
    """There is no node with this number."""

    def __init__(self, number):
        LookError.__init__(self, f"no such node: {number}")
        self.number = number


class NoSuchObserver(LookError):
    """There is no observer with this number."""

    def __init__(self, number):
        LookError.__init__(self, f"no such observer: {number}")
        self.number = number


class RefusedError(LookError):
    """A call is refused."""

    def __init__(self, reason):
        LookError.__init__(self, f"refused: {reason}")
        self.reason = reason


class BadRecord(LookError):
    """A record does not fit."""

    def __init__(self, place):
        LookError.__init__(self, f"the record at {place} does not fit")
        self.place = place


class BadText(LookError):
    """A text is not that of a tree."""

    def __init__(self, place):
        LookError.__init__(self, f"not the text of a tree, at {place}")
        self.place = place


class BadQuery(LookError):
    """A text is not that of a query."""

    def __init__(self, place):
        LookError.__init__(self, f"not the text of a query, at {place}")
        self.place = place
