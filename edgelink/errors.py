"""The errors that the program raises."""


class LinkError(ValueError):
    """The base class of all errors that the program raises."""


class Refused(LinkError):
    """What is asked for cannot be done; what tells why."""

    def __init__(self, what):
        super().__init__(what)
        self.what = what


class BadTrace(LinkError):
    """A text has a fault in a line; lines are counted from 1."""

    def __init__(self, line, what):
        super().__init__(f"line {line}: {what}")
        self.line = line
        self.what = what
