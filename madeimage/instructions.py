"""The instructions: each one's number, and what it does to the height."""

# Of each: its number, how many it takes, how many it puts; counted says what these leave out.
INSTRUCTIONS = {
    "nothing": (0, 0, 1), "truth": (1, 0, 1), "number": (2, 0, 1), "string": (3, 0, 1), "get": (4, 0, 1),
    "put": (5, 1, 0), "cell": (6, 1, 0), "caught": (7, 0, 1), "catch": (8, 1, 0), "global": (9, 0, 1),
    "set": (10, 1, 0), "function": (11, 0, 1), "call": (12, 1, 1), "host": (13, 0, 1), "back": (14, 1, 0),
    "go": (15, 0, 0), "unless": (16, 1, 0), "drop": (17, 1, 0), "twice": (18, 1, 2), "swap": (19, 2, 2),
    "add": (20, 2, 1), "sub": (21, 2, 1), "mul": (22, 2, 1), "div": (23, 2, 1), "mod": (24, 2, 1),
    "minus": (25, 1, 1), "not": (26, 1, 1), "same": (27, 2, 1), "less": (28, 2, 1), "notmore": (29, 2, 1),
    "unlike": (30, 2, 1), "list": (31, 0, 1), "table": (32, 0, 1), "at": (33, 2, 1), "into": (34, 3, 0),
    "long": (35, 1, 1), "throw": (36, 1, 0), "guard": (37, 0, 0), "unguard": (38, 0, 0), "module": (39, 0, 1),
    "give": (40, 1, 0), "task": (41, 1, 1), "yield": (42, 0, 0), "channel": (43, 1, 1), "send": (44, 2, 0),
    "receive": (45, 1, 1), "join": (46, 1, 1), "wait": (47, 1, 0), "held": (48, 0, 1), "hold": (49, 1, 0),
}
JUMPS = ("go", "unless", "guard")


def number_of(instruction):
    return INSTRUCTIONS[instruction][0]


def counted(instruction, first, second):
    """How many more it takes, as its own numbers say."""
    if instruction in ("call", "task", "list"):
        return first
    if instruction == "table":
        return 2 * first
    return second if instruction == "host" else 0


def growth(instruction, first, second):
    """How much higher the stack is behind the instruction."""
    row = INSTRUCTIONS[instruction]
    return row[2] - row[1] - counted(instruction, first, second)
