"""Reads stats, blocks and modules, and leaves an outline of each module: what the names' part goes over."""

from madeimage.cursor import Cursor
from madeimage.exps import read_block
from madeimage.exps import read_exp
from madeimage.exps import read_function
from madeimage.parts import leave_makes
from madeimage.parts import leave_step
from madeimage.parts import take_expected
from madeimage.wrong import Wrong


class StatReader(Cursor):
    """Reads stats; each of its steps bears the line of the innermost stat."""

    def begin_block(self):
        """Begin a block, and plan its stats and its end; behind it the line is again what it is here."""
        self.go_in("{")
        self.plan([(read_rest_of_block, self.line)])


def read_rest_of_block(reader, line):
    if reader.stands("}"):
        reader.line = line
        reader.go_out("}")
    else:
        reader.plan([(read_stat, None), (read_rest_of_block, line)])


def read_block_of_its_own(reader, value):
    """Read a block in which no name is told from outside."""
    reader.leave("block")
    reader.plan([(read_block, None), (leave_step, ("block end", None))])


def read_stat(reader, value):
    reader.line = reader.here.line
    read_rest = STATS.get(reader.here.value, read_exp_stat)
    if reader.stands("fn") and reader.behind().kind != "name":
        read_rest = read_exp_stat
    read_rest(reader)


def read_let(reader):
    reader.take()
    name = reader.expect_kind("name")
    reader.expect("=")
    reader.leave("new", name)
    reader.plan([(read_exp, None), (take_expected, ";"), (leave_step, ("let", name))])


def read_fn(reader):
    begins = reader.take()
    name = reader.take()
    reader.leave("fn", name)
    reader.plan([(read_function, (begins, name.value)), (leave_step, ("assign", name))])


def read_if(reader):
    read_test_and_block(reader, 1)


def read_test_and_block(reader, lands):
    """Read from an if on; lands is how many ifs, this one and those that it is the else of, end with it."""
    reader.take()
    reader.plan([
        (read_exp, None), (leave_step, ("unless", None)), (read_block_of_its_own, None), (read_else, lands),
    ])


def read_else(reader, lands):
    if not reader.stands("else"):
        leave_lands(reader, lands)
        return
    reader.take()
    reader.leave("else")
    if reader.stands("if"):
        # An if behind else is a stat of its own, so its line holds from here on.
        reader.line = reader.here.line
        read_test_and_block(reader, lands + 1)
    else:
        reader.plan([(read_block_of_its_own, None), (leave_lands, lands)])


def leave_lands(reader, lands):
    for land in range(lands):
        reader.leave("land")


def read_while(reader):
    reader.take()
    reader.leave("while")
    reader.plan([
        (read_exp, None), (leave_step, ("while test", None)),
        (read_block_of_its_own, None), (leave_step, ("while end", None)),
    ])


def read_for(reader):
    reader.take()
    name = reader.expect_kind("name")
    reader.expect("in")
    reader.plan([
        (read_exp, None), (leave_step, ("for first", None)), (take_expected, "to"),
        (read_exp, None), (leave_step, ("for last", name)),
        (read_block, None), (leave_step, ("for end", None)),
    ])


def read_leap(reader):
    word = reader.take()
    reader.leave(word.value, word)
    reader.expect(";")


def read_return(reader):
    reader.leave("return", reader.take())
    reader.plan([(read_returned, None), (take_expected, ";"), (leave_step, ("return end", None))])


def read_returned(reader, value):
    if reader.stands(";"):
        reader.leave_make("nothing")
    else:
        read_exp(reader, None)


def read_throw(reader):
    reader.take()
    reader.plan([(read_exp, None), (leave_makes, ("throw",)), (take_expected, ";")])


def read_yield(reader):
    reader.take()
    reader.leave_make("yield")
    reader.expect(";")


def read_try(reader):
    reader.take()
    reader.leave("try")
    reader.plan([(read_block_of_its_own, None), (read_catch, None)])


def read_catch(reader, value):
    reader.expect("catch")
    reader.leave("catch", reader.expect_kind("name"))
    reader.plan([(read_block, None), (leave_step, ("block end", None)), (leave_step, ("land", None))])


def read_use(reader):
    word = reader.take()
    used = reader.expect_kind("string")
    reader.expect("as")
    reader.leave("use", (word, used, reader.expect_kind("name")))
    reader.expect(";")


def read_give(reader):
    word = reader.take()
    reader.leave("give", (word, reader.expect_kind("name")))
    reader.expect(";")


def read_exp_stat(reader):
    reader.plan([(read_exp, None), (read_rest_of_exp_stat, None), (take_expected, ";")])


def read_rest_of_exp_stat(reader, value):
    if reader.stands("="):
        read_assignment(reader)
    else:
        reader.leave_make("drop")


def read_assignment(reader):
    if reader.form not in ("name", "part"):
        raise Wrong(5, reader.here.line, reader.here.column)
    reader.take()
    # What was read as a value is the target: its last step doesn't get it, but waits to be put into.
    left = reader.steps.pop()
    if reader.form == "part":
        reader.plan([(read_exp, None), (leave_makes, ("into",))])
        return
    reader.leave("target", left[1])
    reader.plan([(read_exp, None), (leave_step, ("assign", left[1]))])


STATS = {
    "let": read_let, "fn": read_fn, "if": read_if, "while": read_while, "for": read_for, "break": read_leap,
    "continue": read_leap, "return": read_return, "throw": read_throw, "yield": read_yield, "try": read_try,
    "use": read_use, "give": read_give,
}


class Outline:
    """A module as it was read: its steps, what its outermost stats tell, and the line of its end.

    What they tell is a list of pairs: a name, and the name of the module that is used, or None if it's common.
    """

    def __init__(self, steps, tellings, end_line):
        self.steps = steps
        self.tellings = tellings
        self.end_line = end_line


def add_telling(tellings, found, place):
    """Add what the stat at this place tells; it was read, so its tokens are as they must be."""
    word = found[place].value
    behind = found[place + 1]
    if word == "let" or word == "fn" and behind.kind == "name":
        tellings.append((behind.value, None))
    if word == "use":
        tellings.append((found[place + 3].value, behind.value))


def read_outline(found):
    """Read a module's tokens, or raise what is wrong."""
    reader = StatReader(found)
    tellings = []
    while reader.here.kind != "end":
        place = reader.place
        reader.plan([(read_stat, None)])
        reader.read_planned()
        add_telling(tellings, found, place)
    return Outline(reader.steps, tellings, reader.here.line)
