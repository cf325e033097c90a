"""A cursor over a module's tokens, the steps that reading leaves behind, and the parts that are to be read yet.

A step is what, value, line: what was read, what is to be known of it, and the line of the stat it belongs to.
A part is a function and a value: the function is called with the cursor and the value. What it can't read by itself
it plans, once and as the last thing it does, so that what lies within another is read by a loop, not by a deeper call.
"""

from madeimage.wrong import Wrong

DEEPEST = 40


class Cursor:
    """Meets the tokens one after another; a bad token is wrong only once it is met."""

    def __init__(self, found):
        self.found = found
        self.place = 0
        self.here = found[0]
        self.depth = 0
        self.line = 1
        self.steps = []
        self.planned = []
        # What the exp that was read last is: "name", "part" (it may stand left of =), "call", or "other".
        self.form = "other"

    def plan(self, parts):
        """Plan to read these parts, one after another, before what's planned already."""
        for part in reversed(parts):
            self.planned.append(part)

    def read_planned(self):
        while len(self.planned) > 0:
            part = self.planned.pop()
            read_part = part[0]
            read_part(self, part[1])

    def stands(self, value):
        return self.here.value == value

    def behind(self):
        """The token behind the one that's here."""
        return self.found[self.place + 1]

    def before(self):
        """The token before the one that's here."""
        return self.found[self.place - 1]

    def take(self):
        token = self.here
        self.place += 1
        self.here = self.found[self.place]
        return token

    def refuse_here(self):
        """The token here can't be, or can't stand where it does."""
        raise Wrong(1 if self.here.kind == "bad" else 2, self.here.line, self.here.column)

    def expect(self, value):
        if not self.stands(value):
            self.refuse_here()
        return self.take()

    def expect_kind(self, kind):
        if self.here.kind != kind:
            self.refuse_here()
        return self.take()

    def go_in(self, value):
        """Take the token that begins what lies one deeper."""
        if self.stands(value) and self.depth == DEEPEST:
            raise Wrong(6, self.here.line, self.here.column)
        self.depth += 1
        return self.expect(value)

    def go_out(self, value):
        self.depth -= 1
        return self.expect(value)

    def comma_follows(self, so_far, most):
        """Take a comma, if one is here, behind as many of a list as there are so far."""
        if not self.stands(","):
            return False
        self.take()
        if so_far == most:
            raise Wrong(6, self.here.line, self.here.column)
        return True

    def leave(self, what, value=None):
        self.steps.append((what, value, self.line))

    def leave_make(self, instruction, first=0, second=0):
        self.leave("make", (instruction, first, second))
