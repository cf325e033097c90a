"""Reads stats, blocks and modules, and leaves an outline of each module: what the names' part goes over."""

from madeimage.exps import ExpReader
from madeimage.wrong import Wrong


class StatReader(ExpReader):
    """Reads stats; each of its steps bears the line of the innermost stat."""

    def read_stat(self):
        self.line = self.here.line
        read_rest = STATS.get(self.here.value, read_exp_stat)
        if self.stands("fn") and self.behind().kind != "name":
            read_rest = read_exp_stat
        read_rest(self)

    def read_block(self):
        """Read a block; answer the line of its end."""
        line = self.line
        self.go_in("{")
        while not self.stands("}"):
            self.read_stat()
        self.line = line
        return self.go_out("}").line

    def read_block_of_its_own(self):
        """Read a block in which no name is told from outside."""
        self.leave("block")
        self.read_block()
        self.leave("block end")


def read_let(reader):
    reader.take()
    name = reader.expect_kind("name")
    reader.expect("=")
    reader.leave("new", name)
    reader.read_exp()
    reader.expect(";")
    reader.leave("let", name)


def read_fn(reader):
    begins = reader.take()
    name = reader.take()
    reader.leave("fn", name)
    reader.read_function(begins, name.value)
    reader.leave("assign", name)


def read_if(reader):
    lands = 1
    read_test_and_block(reader)
    while reader.stands("else"):
        reader.take()
        reader.leave("else")
        if not reader.stands("if"):
            reader.read_block_of_its_own()
            break
        # An if behind else is a stat of its own, so its line holds from here on.
        reader.line = reader.here.line
        lands += 1
        read_test_and_block(reader)
    while lands > 0:
        reader.leave("land")
        lands -= 1


def read_test_and_block(reader):
    reader.take()
    reader.read_exp()
    reader.leave("unless")
    reader.read_block_of_its_own()


def read_while(reader):
    reader.take()
    reader.leave("while")
    reader.read_exp()
    reader.leave("while test")
    reader.read_block_of_its_own()
    reader.leave("while end")


def read_for(reader):
    reader.take()
    name = reader.expect_kind("name")
    reader.expect("in")
    reader.read_exp()
    reader.leave("for first")
    reader.expect("to")
    reader.read_exp()
    reader.leave("for last", name)
    reader.read_block()
    reader.leave("for end")


def read_leap(reader):
    word = reader.take()
    reader.leave(word.value, word)
    reader.expect(";")


def read_return(reader):
    reader.leave("return", reader.take())
    if reader.stands(";"):
        reader.leave_make("nothing")
    else:
        reader.read_exp()
    reader.expect(";")
    reader.leave("return end")


def read_throw(reader):
    reader.take()
    reader.read_exp()
    reader.leave_make("throw")
    reader.expect(";")


def read_yield(reader):
    reader.take()
    reader.leave_make("yield")
    reader.expect(";")


def read_try(reader):
    reader.take()
    reader.leave("try")
    reader.read_block_of_its_own()
    reader.expect("catch")
    reader.leave("catch", reader.expect_kind("name"))
    reader.read_block()
    reader.leave("block end")
    reader.leave("land")


def read_use(reader):
    word = reader.take()
    used = reader.expect_kind("string")
    reader.expect("as")
    reader.leave("use", (word, used, reader.expect_kind("name")))
    reader.expect(";")


def read_give(reader):
    word = reader.take()
    reader.leave("give", (word, reader.expect_kind("name")))
    reader.expect(";")


def read_exp_stat(reader):
    form = reader.read_exp()
    if reader.stands("="):
        read_assignment(reader, form)
    else:
        reader.leave_make("drop")
    reader.expect(";")


def read_assignment(reader, form):
    if form not in ("name", "part"):
        raise Wrong(5, reader.here.line, reader.here.column)
    reader.take()
    # What was read as a value is the target: its last step doesn't get it, but waits to be put into.
    left = reader.steps.pop()
    if form == "part":
        reader.read_exp()
        reader.leave_make("into")
        return
    reader.leave("target", left[1])
    reader.read_exp()
    reader.leave("assign", left[1])


STATS = {
    "let": read_let, "fn": read_fn, "if": read_if, "while": read_while, "for": read_for, "break": read_leap,
    "continue": read_leap, "return": read_return, "throw": read_throw, "yield": read_yield, "try": read_try,
    "use": read_use, "give": read_give,
}


class Outline:
    """A module as it was read: its steps, what its outermost stats tell, and the line of its end.

    What they tell is a list of pairs: a name, and the name of the module that is used, or None if it's common.
    """

    def __init__(self, steps, tellings, end_line):
        self.steps = steps
        self.tellings = tellings
        self.end_line = end_line


def add_telling(tellings, found, place):
    """Add what the stat at this place tells; it was read, so its tokens are as they must be."""
    word = found[place].value
    behind = found[place + 1]
    if word == "let" or word == "fn" and behind.kind == "name":
        tellings.append((behind.value, None))
    if word == "use":
        tellings.append((found[place + 3].value, behind.value))


def read_outline(found):
    """Read a module's tokens, or raise what is wrong."""
    reader = StatReader(found)
    tellings = []
    while reader.here.kind != "end":
        place = reader.place
        reader.read_stat()
        add_telling(tellings, found, place)
    return Outline(reader.steps, tellings, reader.here.line)
