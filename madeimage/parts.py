"""Parts that exps and stats alike plan: what takes a token, and what leaves steps."""


def take_expected(reader, value):
    reader.expect(value)


def leave_step(reader, step):
    """Leave a step; it is what was read, and what is to be known of it."""
    reader.leave(step[0], step[1])


def leave_makes(reader, instructions):
    for instruction in instructions:
        reader.leave_make(instruction)
