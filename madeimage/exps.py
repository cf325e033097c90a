"""Reads exps. What reads one answers its form: "name", "part" (it may stand left of =), "call", or "other"."""

from madeimage.cursor import Cursor
from madeimage.wrong import Wrong

MOST_ARGUMENTS = 32
MOST_LISTED = 250

LEVELS = {
    "or": 1, "and": 2, "==": 4, "!=": 4, "<": 4, "<=": 4, ">": 4, ">=": 4,
    "+": 5, "-": 5, "*": 6, "/": 6, "rem": 6,
}
LOOSEST = 1
NOT_LEVEL = 3
TEST_LEVEL = 4
TIGHTEST = 6

JOINS = {
    "==": ("same",), "!=": ("unlike",), "<": ("less",), "<=": ("notmore",), ">": ("swap", "less"),
    ">=": ("swap", "notmore"), "+": ("add",), "-": ("sub",), "*": ("mul",), "/": ("div",), "rem": ("mod",),
}

# What is written word ( exp ), and the instructions behind the exp.
WORDS_WITH_ONE = {
    "channel": ("channel",), "receive": ("receive",), "join": ("join",), "len": ("long",), "wait": ("wait", "nothing"),
}


class ExpReader(Cursor):
    """Reads exps; read_block, which a function's block needs, is the stat reader's."""

    def read_exp(self):
        return self.read_joined(LOOSEST)

    def read_joined(self, least):
        """Read what is joined by signs and words of level least or tighter ones."""
        most = TIGHTEST
        if self.stands("not") and least <= NOT_LEVEL:
            form = self.read_not()
            most = NOT_LEVEL - 1
        else:
            form = self.read_sign()
        level = self.level_here()
        while least <= level and level <= most:
            self.read_join(level)
            form = "other"
            # A test takes no second one.
            most = level - 1 if level == TEST_LEVEL else level
            level = self.level_here()
        return form

    def level_here(self):
        return LEVELS.get(self.here.value, 0)

    def read_join(self, level):
        joined_by = self.take().value
        if joined_by in ("or", "and"):
            self.leave(joined_by)
            self.read_joined(level + 1)
            self.leave("land")
            return
        self.read_joined(level + 1)
        self.leave_makes(JOINS[joined_by])

    def leave_makes(self, instructions):
        for instruction in instructions:
            self.leave_make(instruction)

    def read_not(self):
        self.go_in("not")
        self.read_joined(NOT_LEVEL)
        self.depth -= 1
        self.leave_make("not")
        return "other"

    def read_sign(self):
        if not self.stands("-"):
            return self.read_post()
        self.go_in("-")
        self.read_sign()
        self.depth -= 1
        self.leave_make("minus")
        return "other"

    def read_post(self):
        form = self.read_prim()
        while self.here.value in SUFFIXES:
            read_suffix = SUFFIXES[self.here.value]
            form = read_suffix(self)
        return form

    def read_prim(self):
        if self.here.kind == "name":
            self.leave("name", self.take())
            return "name"
        if self.here.kind in ("number", "string"):
            self.leave_make(self.here.kind, self.take().value)
            return "other"
        read_rest = PRIMS.get(self.here.value)
        if read_rest is None:
            self.refuse_here()
        read_rest(self)
        return "other"

    def read_listed(self, first, last, most, read_one):
        """Read a list between two signs; answer how many are in it."""
        self.go_in(first)
        count = 0
        more = not self.stands(last)
        while more:
            read_one(self)
            count += 1
            more = self.comma_follows(count, most)
        self.go_out(last)
        return count

    def read_parameters(self):
        """Read them with their parentheses, which are none of an exp, so they count for no depth."""
        self.expect("(")
        parameters = []
        more = not self.stands(")")
        while more:
            parameters.append(self.expect_kind("name"))
            more = self.comma_follows(len(parameters), MOST_ARGUMENTS)
        self.expect(")")
        return parameters

    def read_function(self, begins, name):
        """Read from the parameters on; begins is the fn, name the function's name's bytes."""
        self.leave("function", (begins, name, self.read_parameters()))
        last_line = self.read_block()
        self.leave("function end", last_line)


def read_exp_of_list(reader):
    reader.read_exp()


def read_pair(reader):
    read_key(reader)
    reader.expect(":")
    reader.read_exp()


def read_key(reader):
    if reader.here.kind in ("name", "string"):
        reader.leave_make("string", reader.take().value)
        return
    read_within(reader, "[", "]")


def read_within(reader, first, last):
    reader.go_in(first)
    reader.read_exp()
    reader.go_out(last)


def read_call(reader):
    count = reader.read_listed("(", ")", MOST_ARGUMENTS, read_exp_of_list)
    reader.leave_make("call", count)
    return "call"


def read_index(reader):
    read_within(reader, "[", "]")
    reader.leave_make("at")
    return "part"


def read_dot(reader):
    reader.take()
    reader.leave_make("string", reader.expect_kind("name").value)
    reader.leave_make("at")
    return "part"


def read_group(reader):
    read_within(reader, "(", ")")


def read_list(reader):
    count = reader.read_listed("[", "]", MOST_LISTED, read_exp_of_list)
    reader.leave_make("list", count)


def read_table(reader):
    count = reader.read_listed("{", "}", MOST_LISTED, read_pair)
    reader.leave_make("table", count)


def read_truth(reader):
    reader.leave_make("truth", 1 if reader.take().value == "true" else 0)


def read_nothing(reader):
    reader.take()
    reader.leave_make("nothing")


def read_nameless_function(reader):
    reader.read_function(reader.take(), ())


def read_host(reader):
    reader.take()
    name = reader.expect_kind("name").value
    count = reader.read_listed("(", ")", MOST_ARGUMENTS, read_exp_of_list)
    reader.leave_make("host", name, count)


def read_task(reader):
    begins = reader.go_in("task")
    if reader.read_post() != "call":
        raise Wrong(5, begins.line, begins.column)
    reader.depth -= 1
    call = reader.steps.pop()
    reader.leave_make("task", call[1][1])


def read_word_with_one(reader):
    word = reader.take().value
    read_within(reader, "(", ")")
    reader.leave_makes(WORDS_WITH_ONE[word])


def read_send(reader):
    reader.take()
    reader.go_in("(")
    reader.read_exp()
    reader.expect(",")
    reader.read_exp()
    reader.go_out(")")
    reader.leave_make("send")
    reader.leave_make("nothing")


SUFFIXES = {"(": read_call, "[": read_index, ".": read_dot}
PRIMS = {
    "true": read_truth, "false": read_truth, "nothing": read_nothing, "(": read_group, "[": read_list,
    "{": read_table, "fn": read_nameless_function, "host": read_host, "task": read_task,
    "channel": read_word_with_one, "receive": read_word_with_one, "join": read_word_with_one,
    "wait": read_word_with_one, "len": read_word_with_one, "send": read_send,
}
