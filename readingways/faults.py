"""The fault of a text."""


class Fault(Exception):
    """The first line of a text that is wrong (from 0 on), and the least kind of what is wrong with it."""

    def __init__(self, line, kind):
        self.line = line
        self.kind = kind
