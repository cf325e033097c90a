"""A function while it is made, and when it is."""

from madeimage.assembly import Assembly
from madeimage.scopes import Scope

MOST_PLACES = 250
MOST_HEIGHT = 250
MOST_CAUGHT = 250
MOST_INSTRUCTIONS = 10000


class Loop:
    """Where continue and break go, and how many trys the loop stands in; a for has its top and two places too."""

    def __init__(self, assembly, guards):
        self.again = assembly.new_label()
        self.out = assembly.new_label()
        self.guards = guards
        self.top = None
        self.first_place = None
        self.last_place = None


class Draft:
    """A function's names and rows; line and column are where it's told that it is too large."""

    def __init__(self, level, name, line, column):
        self.name = name
        self.line = line
        self.column = column
        self.scope = Scope(level)
        self.assembly = Assembly()
        self.arguments = []
        self.loops = []
        self.guards = 0
        self.settled_rows = []

    def is_too_large(self):
        return (self.scope.places > MOST_PLACES or self.assembly.greatest_height > MOST_HEIGHT
                or len(self.scope.catches) > MOST_CAUGHT or self.assembly.count_uncaught() > MOST_INSTRUCTIONS)

    def settle(self):
        self.settled_rows = self.assembly.settled()

    def is_too_long_settled(self):
        return len(self.settled_rows) > MOST_INSTRUCTIONS

    def cells(self):
        return [argument.place for argument in self.arguments if argument.is_caught]
