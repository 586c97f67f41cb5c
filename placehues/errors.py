"""The errors that the functions of the package raise."""


class NoPlace(LookupError):
    """There is no such place, or no such letter: it is kept as place."""

    def __init__(self, place):
        LookupError.__init__(self, "there is no such place")
        self.place = place


class BadLine(ValueError):
    """This line of a text, counted from 1, can not stand there."""

    def __init__(self, line):
        ValueError.__init__(self, "the line can not stand there")
        self.line = line


class CanNot(ValueError):
    """There is nothing of the kind that is asked for."""


class TooMuch(ValueError):
    """More would have to be looked at than is promised."""


class Unfit(ValueError):
    """A value does not fit the others."""
