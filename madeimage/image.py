"""Tells a program's image as numbers."""

from madeimage.instructions import number_of

MOST_POOLED = 10000
POOLED = {"string": "strings", "give": "strings", "number": "numbers", "host": "hosts"}


def told_bytes(values):
    return [len(values)] + list(values)


class Pools:
    """Strings, numbers and hosts, each once, with its number in the order in which they are first needed."""

    def __init__(self):
        self.found = {"strings": {}, "numbers": {}, "hosts": {}}

    def number_for(self, pool, value):
        found = self.found[pool]
        return found.setdefault(value, len(found))

    def are_too_large(self):
        return any([len(found) > MOST_POOLED for found in self.found.values()])

    def told_as_numbers(self):
        answer = [len(self.found["strings"])]
        for string in self.found["strings"]:
            answer.extend(told_bytes(string))
        answer.append(len(self.found["numbers"]))
        answer.extend(list(self.found["numbers"]))
        answer.append(len(self.found["hosts"]))
        for host in self.found["hosts"]:
            answer.extend(told_bytes(host))
        return answer


def told_row(row, pools):
    """An instruction's number and its two, with what is pooled put into its pool."""
    first = row[1]
    if row[0] in POOLED:
        first = pools.number_for(POOLED[row[0]], first)
    return [number_of(row[0]), first, row[2]]


def told_function(function, pools):
    answer = told_bytes(function.name)
    answer.extend([len(function.arguments), function.scope.places])
    answer.extend(told_bytes(function.cells()))
    answer.append(len(function.scope.catches))
    for catch in function.scope.catches:
        answer.extend(list(catch))
    answer.append(function.assembly.greatest_height)
    answer.append(len(function.settled_rows))
    for row in function.settled_rows:
        answer.extend(told_row(row, pools))
    answer.extend([row[3] for row in function.settled_rows])
    return answer


def told_modules(program):
    answer = [len(program.names)]
    for number, name in enumerate(program.names):
        answer.extend(told_bytes(name))
        answer.extend([program.bodies[number], program.common_counts[number]])
    return answer


def told_image(program):
    """The image's numbers, or None if the whole is too large."""
    pools = Pools()
    functions = [len(program.functions)]
    for function in program.functions:
        functions.extend(told_function(function, pools))
    if program.has_too_many_functions() or pools.are_too_large():
        return None
    return pools.told_as_numbers() + told_modules(program) + functions
