"""The one error that reading and naming raise: what is wrong with a module."""


class Wrong(Exception):
    """What is wrong, as the document numbers it, and where in the module."""

    def __init__(self, kind, line, column):
        Exception.__init__(self)
        self.kind = kind
        self.line = line
        self.column = column
