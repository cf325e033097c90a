"""Reads exps, part by part. What reads an exp tells the reader its form."""

from madeimage.parts import leave_makes
from madeimage.parts import take_expected
from madeimage.wrong import Wrong

MOST_ARGUMENTS = 32
MOST_LISTED = 250

LEVELS = {
    "or": 1, "and": 2, "==": 4, "!=": 4, "<": 4, "<=": 4, ">": 4, ">=": 4,
    "+": 5, "-": 5, "*": 6, "/": 6, "rem": 6,
}
LOOSEST = 1
NOT_LEVEL = 3
TEST_LEVEL = 4
TIGHTEST = 6

JOINS = {
    "==": ("same",), "!=": ("unlike",), "<": ("less",), "<=": ("notmore",), ">": ("swap", "less"),
    ">=": ("swap", "notmore"), "+": ("add",), "-": ("sub",), "*": ("mul",), "/": ("div",), "rem": ("mod",),
}

# What is written word ( exp ), and the instructions behind the exp.
WORDS_WITH_ONE = {
    "channel": ("channel",), "receive": ("receive",), "join": ("join",), "len": ("long",), "wait": ("wait", "nothing"),
}


def read_exp(reader, value):
    read_joined(reader, LOOSEST)


def read_joined(reader, least):
    """Read what is joined by signs and words of level least or tighter ones."""
    if reader.stands("not") and least <= NOT_LEVEL:
        reader.go_in("not")
        reader.plan([(read_joined, NOT_LEVEL), (end_one_deeper, "not"), (read_joins, (least, NOT_LEVEL - 1))])
    else:
        reader.plan([(read_sign, None), (read_joins, (least, TIGHTEST))])


def read_joins(reader, levels):
    """Read what is joined to what was read, by signs and words of levels from the first to the second."""
    level = LEVELS.get(reader.here.value, 0)
    if level < levels[0] or level > levels[1]:
        return
    joined_by = reader.take().value
    if joined_by in ("or", "and"):
        reader.leave(joined_by)
    # A test takes no second one.
    most = level - 1 if level == TEST_LEVEL else level
    reader.plan([(read_joined, level + 1), (end_join, joined_by), (read_joins, (levels[0], most))])


def end_join(reader, joined_by):
    reader.form = "other"
    if joined_by in ("or", "and"):
        reader.leave("land")
    else:
        leave_makes(reader, JOINS[joined_by])


def read_sign(reader, value):
    if reader.stands("-"):
        reader.go_in("-")
        reader.plan([(read_sign, None), (end_one_deeper, "minus")])
    else:
        read_post(reader, None)


def end_one_deeper(reader, instruction):
    """End what stands behind not or the sign -, with its instruction."""
    reader.depth -= 1
    reader.leave_make(instruction)
    reader.form = "other"


def read_post(reader, value):
    form = "name" if reader.here.kind == "name" else "other"
    reader.plan([(read_prim, None), (read_suffixes, form)])


def read_suffixes(reader, form):
    """Read what stands behind a post of this form and belongs to it."""
    if reader.here.value not in SUFFIXES:
        reader.form = form
        return
    suffix = SUFFIXES[reader.here.value]
    reader.plan([(suffix[0], None), (read_suffixes, suffix[1])])


def read_prim(reader, value):
    if reader.here.kind == "name":
        reader.leave("name", reader.take())
    elif reader.here.kind in ("number", "string"):
        reader.leave_make(reader.here.kind, reader.take().value)
    elif reader.here.value in PRIMS:
        read_rest = PRIMS[reader.here.value]
        read_rest(reader, None)
    else:
        reader.refuse_here()


class Series:
    """A list while it is read: its signs, how many it may have, what reads one of them, and how many were read."""

    def __init__(self, first, last, most, read_one):
        self.first = first
        self.last = last
        self.most = most
        self.read_one = read_one
        self.so_far = 0


def read_listed(reader, series):
    reader.go_in(series.first)
    if reader.stands(series.last):
        reader.go_out(series.last)
    else:
        reader.plan([(series.read_one, None), (read_rest_of_list, series)])


def read_rest_of_list(reader, series):
    """Read what is behind one of the list."""
    series.so_far += 1
    if reader.comma_follows(series.so_far, series.most):
        reader.plan([(series.read_one, None), (read_rest_of_list, series)])
    else:
        reader.go_out(series.last)


def new_arguments():
    return Series("(", ")", MOST_ARGUMENTS, read_exp)


def make_listed(reader, parts):
    """Leave an instruction that takes what the series has."""
    reader.leave_make(parts[0], parts[1].so_far)


def read_within(reader, signs):
    """Read an exp between two signs."""
    reader.go_in(signs[0])
    reader.plan([(read_exp, None), (go_out_of, signs[1])])


def go_out_of(reader, last):
    reader.go_out(last)


def read_pair(reader, value):
    reader.plan([(read_key, None), (take_expected, ":"), (read_exp, None)])


def read_key(reader, value):
    if reader.here.kind in ("name", "string"):
        reader.leave_make("string", reader.take().value)
    else:
        read_within(reader, ("[", "]"))


def read_parameters(reader):
    """Read them with their parentheses, which are none of an exp, so they count for no depth."""
    reader.expect("(")
    parameters = []
    more = not reader.stands(")")
    while more:
        parameters.append(reader.expect_kind("name"))
        more = reader.comma_follows(len(parameters), MOST_ARGUMENTS)
    reader.expect(")")
    return parameters


def read_function(reader, parts):
    """Read from the parameters on; the parts are the function's fn and its name's bytes."""
    reader.leave("function", (parts[0], parts[1], read_parameters(reader)))
    reader.plan([(read_block, None), (end_function, None)])


def read_block(reader, value):
    # Blocks hold stats, so how they're read is for the stat reader to say.
    reader.begin_block()


def end_function(reader, value):
    reader.leave("function end", reader.before().line)


def read_call(reader, value):
    arguments = new_arguments()
    reader.plan([(read_listed, arguments), (make_listed, ("call", arguments))])


def read_index(reader, value):
    reader.plan([(read_within, ("[", "]")), (leave_makes, ("at",))])


def read_dot(reader, value):
    reader.take()
    reader.leave_make("string", reader.expect_kind("name").value)
    reader.leave_make("at")


def read_group(reader, value):
    read_within(reader, ("(", ")"))


def read_list(reader, value):
    series = Series("[", "]", MOST_LISTED, read_exp)
    reader.plan([(read_listed, series), (make_listed, ("list", series))])


def read_table(reader, value):
    series = Series("{", "}", MOST_LISTED, read_pair)
    reader.plan([(read_listed, series), (make_listed, ("table", series))])


def read_truth(reader, value):
    reader.leave_make("truth", 1 if reader.take().value == "true" else 0)


def read_nothing(reader, value):
    reader.take()
    reader.leave_make("nothing")


def read_nameless_function(reader, value):
    read_function(reader, (reader.take(), ()))


def read_host(reader, value):
    reader.take()
    name = reader.expect_kind("name").value
    arguments = new_arguments()
    reader.plan([(read_listed, arguments), (make_host, (name, arguments))])


def make_host(reader, parts):
    reader.leave_make("host", parts[0], parts[1].so_far)


def read_task(reader, value):
    reader.plan([(read_post, None), (end_task, reader.go_in("task"))])


def end_task(reader, begins):
    if reader.form != "call":
        raise Wrong(5, begins.line, begins.column)
    reader.depth -= 1
    call = reader.steps.pop()
    reader.leave_make("task", call[1][1])


def read_word_with_one(reader, value):
    word = reader.take().value
    reader.plan([(read_within, ("(", ")")), (leave_makes, WORDS_WITH_ONE[word])])


def read_send(reader, value):
    reader.take()
    reader.go_in("(")
    reader.plan([
        (read_exp, None), (take_expected, ","), (read_exp, None), (go_out_of, ")"), (leave_makes, ("send", "nothing")),
    ])


SUFFIXES = {"(": (read_call, "call"), "[": (read_index, "part"), ".": (read_dot, "part")}
PRIMS = {
    "true": read_truth, "false": read_truth, "nothing": read_nothing, "(": read_group, "[": read_list,
    "{": read_table, "fn": read_nameless_function, "host": read_host, "task": read_task,
    "channel": read_word_with_one, "receive": read_word_with_one, "join": read_word_with_one,
    "wait": read_word_with_one, "len": read_word_with_one, "send": read_send,
}
