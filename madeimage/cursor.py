"""A cursor over a module's tokens, and the steps that reading leaves behind.

A step is what, value, line: what was read, what is to be known of it, and the line of the stat it belongs to.
"""

from madeimage.wrong import Wrong

DEEPEST = 40


class Cursor:
    """Meets the tokens one after another; a bad token is wrong only once it is met."""

    def __init__(self, found):
        self.found = found
        self.place = 0
        self.here = found[0]
        self.depth = 0
        self.line = 1
        self.steps = []

    def stands(self, value):
        return self.here.value == value

    def behind(self):
        """The token behind the one that's here."""
        return self.found[self.place + 1]

    def take(self):
        token = self.here
        self.place += 1
        self.here = self.found[self.place]
        return token

    def refuse_here(self):
        """The token here can't be, or can't stand where it does."""
        raise Wrong(1 if self.here.kind == "bad" else 2, self.here.line, self.here.column)

    def expect(self, value):
        if not self.stands(value):
            self.refuse_here()
        return self.take()

    def expect_kind(self, kind):
        if self.here.kind != kind:
            self.refuse_here()
        return self.take()

    def go_in(self, value):
        """Take the token that begins what lies one deeper."""
        if self.stands(value) and self.depth == DEEPEST:
            raise Wrong(6, self.here.line, self.here.column)
        self.depth += 1
        return self.expect(value)

    def go_out(self, value):
        self.depth -= 1
        return self.expect(value)

    def comma_follows(self, so_far, most):
        """Take a comma, if one is here, behind as many of a list as there are so far."""
        if not self.stands(","):
            return False
        self.take()
        if so_far == most:
            raise Wrong(6, self.here.line, self.here.column)
        return True

    def leave(self, what, value=None):
        self.steps.append((what, value, self.line))

    def leave_make(self, instruction, first=0, second=0):
        self.leave("make", (instruction, first, second))
