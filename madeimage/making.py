"""Makes each module's functions of its steps, one handler for each kind of step, and meets what is wrong with names."""

from madeimage.drafts import Loop
from madeimage.maker import Maker
from madeimage.wrong import Wrong

MOST_COMMON = 250
ASSIGNERS = {"global": "set", "caught": "catch"}


def make_plain(maker, parts):
    maker.make(parts[0], parts[1], parts[2])


def make_name(maker, name):
    meaning = maker.meaning(name)
    if meaning[0] == "variable":
        maker.make_for_variable("get variable", meaning[1])
    else:
        maker.make(meaning[0], meaning[1])


def check_target(maker, name):
    # The name stands before the exp, so it's met, and caught, before what's in the exp.
    maker.target(name)


def make_assign(maker, name):
    meaning = maker.target(name)
    if meaning[0] == "variable":
        maker.make_for_variable("put variable", meaning[1])
    else:
        maker.make(ASSIGNERS[meaning[0]], meaning[1])


def make_or(maker, value):
    right = maker.draft.assembly.new_label()
    maker.make("twice")
    maker.make("unless", right)
    maker.make("go", maker.draft.assembly.wait_for_label())
    maker.draft.assembly.put_label(right)
    maker.make("drop")


def make_and(maker, value):
    maker.make("twice")
    maker.make("unless", maker.draft.assembly.wait_for_label())
    maker.make("drop")


def make_land(maker, value):
    maker.draft.assembly.land()


def check_new(maker, name):
    maker.check_new(name)


def make_told(maker, name):
    maker.tell_value(name)


def begin_named_function(maker, name):
    maker.check_new(name)
    if maker.is_outermost():
        maker.tell_outermost(name)
    else:
        variable = maker.draft.scope.tell(name.value)
        maker.draft.assembly.add_cell_ahead(variable, maker.line)


def begin_function(maker, parts):
    begins = parts[0]
    if maker.program.is_full():
        raise Wrong(6, begins.line, begins.column)
    maker.make("function", len(maker.program.functions))
    maker.begin_draft(parts[1], begins.line, begins.column)
    for parameter in parts[2]:
        maker.check_new(parameter)
        maker.draft.arguments.append(maker.draft.scope.tell(parameter.value))


def end_function(maker, last_line):
    maker.end_draft(last_line)


def begin_block(maker, value):
    maker.draft.scope.begin_block()


def end_block(maker, value):
    maker.draft.scope.end_block()


def make_unless(maker, value):
    maker.make("unless", maker.draft.assembly.wait_for_label())


def make_else(maker, value):
    otherwise = maker.draft.assembly.waiting.pop()
    maker.make("go", maker.draft.assembly.wait_for_label())
    maker.draft.assembly.put_label(otherwise)


def begin_loop(maker):
    loop = Loop(maker.draft.assembly, maker.draft.guards)
    maker.draft.loops.append(loop)
    return loop


def begin_while(maker, value):
    maker.draft.assembly.put_label(begin_loop(maker).again)


def test_while(maker, value):
    maker.make("unless", maker.draft.loops[-1].out)


def end_while(maker, value):
    loop = maker.draft.loops.pop()
    maker.make("go", loop.again)
    maker.draft.assembly.put_label(loop.out)


def begin_for(maker, value):
    loop = begin_loop(maker)
    loop.top = maker.draft.assembly.new_label()
    maker.draft.scope.begin_block()
    loop.first_place = maker.draft.scope.take_place()
    loop.last_place = maker.draft.scope.take_place()
    maker.make("put", loop.first_place)


def make_for_test(maker, loop, test):
    maker.make("get", loop.first_place)
    maker.make("get", loop.last_place)
    maker.make(test)
    maker.make("unless", loop.out)


def test_for(maker, name):
    loop = maker.draft.loops[-1]
    maker.make("put", loop.last_place)
    make_for_test(maker, loop, "notmore")
    maker.draft.assembly.put_label(loop.top)
    maker.make("get", loop.first_place)
    maker.tell_value(name)


def end_for(maker, value):
    loop = maker.draft.loops.pop()
    maker.draft.assembly.put_label(loop.again)
    make_for_test(maker, loop, "less")
    maker.make("get", loop.first_place)
    maker.make("number", 1)
    maker.make("add")
    maker.make("put", loop.first_place)
    maker.make("go", loop.top)
    maker.draft.assembly.put_label(loop.out)
    maker.draft.scope.end_block()


def make_unguards(maker, guards):
    """Leave trys until one is in as many as guards only."""
    for left in range(guards, maker.draft.guards):
        maker.make("unguard")


def leave_to_loop(maker, word):
    """Leave the trys out to the innermost loop; answer it."""
    if len(maker.draft.loops) == 0:
        raise Wrong(5, word.line, word.column)
    loop = maker.draft.loops[-1]
    make_unguards(maker, loop.guards)
    return loop


def make_break(maker, word):
    maker.make("go", leave_to_loop(maker, word).out)


def make_continue(maker, word):
    maker.make("go", leave_to_loop(maker, word).again)


def check_return(maker, word):
    if not maker.is_in_function():
        raise Wrong(5, word.line, word.column)


def make_return(maker, value):
    make_unguards(maker, 0)
    maker.make("back")


def begin_try(maker, value):
    maker.make("guard", maker.draft.assembly.wait_for_label())
    maker.draft.guards += 1


def begin_catch(maker, name):
    assembly = maker.draft.assembly
    caught_at = assembly.waiting.pop()
    maker.draft.guards -= 1
    maker.make("unguard")
    maker.make("go", assembly.wait_for_label())
    assembly.put_label(caught_at)
    # What was thrown stands there.
    assembly.raise_height(1)
    maker.draft.scope.begin_block()
    maker.tell_value(name)


def make_use(maker, parts):
    maker.check_outermost(parts[0])
    used = parts[1]
    number = maker.program.numbers.get(used.value)
    if number is None:
        raise Wrong(7, used.line, used.column)
    if maker.program.leads(number, maker.number):
        raise Wrong(8, used.line, used.column)
    maker.check_new(parts[2])
    maker.tell_outermost(parts[2])


def make_give(maker, parts):
    maker.check_outermost(parts[0])
    name = parts[1]
    meaning = maker.told.get(name.value)
    if meaning is None or meaning[0] != "global":
        raise Wrong(3, name.line, name.column)
    if name.value in maker.given:
        raise Wrong(4, name.line, name.column)
    maker.given[name.value] = True
    maker.make("global", meaning[1])
    maker.make("give", name.value)


STEPS = {
    "make": make_plain, "name": make_name, "target": check_target, "assign": make_assign, "or": make_or,
    "and": make_and, "land": make_land, "new": check_new, "let": make_told, "fn": begin_named_function,
    "function": begin_function, "function end": end_function, "block": begin_block, "block end": end_block,
    "unless": make_unless, "else": make_else, "while": begin_while, "while test": test_while,
    "while end": end_while, "for first": begin_for, "for last": test_for, "for end": end_for,
    "break": make_break, "continue": make_continue, "return": check_return, "return end": make_return,
    "try": begin_try, "catch": begin_catch, "use": make_use, "give": make_give,
}


def make_module(program, number):
    """Make the module's functions, or raise what is wrong with its names or its size."""
    outline = program.outlines[number]
    maker = Maker(program, number)
    program.bodies.append(len(program.functions))
    maker.begin_draft(program.names[number], 1, 1)
    for step in outline.steps:
        handle = STEPS[step[0]]
        maker.line = step[2]
        handle(maker, step[1])
    maker.end_draft(outline.end_line)
    commons = [name for name in maker.told if maker.told[name][0] == "global"]
    if len(commons) > MOST_COMMON:
        raise Wrong(6, 1, 1)
    program.common_counts.append(len(commons))
