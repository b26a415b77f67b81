"""The errors of the package.

Each hands Python's own base a plain message, never the refused thing itself:
that may be of any kind and too deep to be shown.
"""


class BadValue(ValueError):
    """Something isn't of the kind that is wanted; what names it."""

    def __init__(self, what):
        ValueError.__init__(self, f"bad {what}")
        self.what = what


class BadText(BadValue):
    """A text is refused at the sign that stands at place, counted from 0."""

    def __init__(self, place):
        BadValue.__init__(self, "text")
        self.place = place


class NotFinite(ArithmeticError):
    """A number is "infinite" or "nan" where a finite one is wanted."""

    def __init__(self, state):
        ArithmeticError.__init__(self, f"not finite: {state}")
        self.state = state


class NoRow(IndexError):
    """A thing that was asked for as a row's number is none."""

    def __init__(self, row):
        IndexError.__init__(self, "no row of that number")
        self.row = row


class CantBe(RuntimeError):
    """What was asked for cannot be done now."""

    def __init__(self, about):
        RuntimeError.__init__(self, f"cannot be done: {about}")
        self.about = about


class Untold(Exception):
    """A story was not told; place is the number of its first refused line, or None."""

    def __init__(self, place):
        Exception.__init__(self, f"story not told: {place}")
        self.place = place


class NoPaper(BadValue):
    """A paper does not come out."""

    def __init__(self):
        BadValue.__init__(self, "paper")
