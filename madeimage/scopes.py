"""A function's names: its blocks, its places, and what it catches."""


class Variable:
    """Its level is its function's depth among the functions being made, 0 a module's body."""

    def __init__(self, level, place):
        self.level = level
        self.place = place
        self.is_caught = False


class Scope:
    """The names of one function while it is made."""

    def __init__(self, level):
        self.level = level
        self.blocks = [{}]
        self.taken_before = []
        self.taken = 0
        self.places = 0
        self.catches = []
        self.catch_numbers = {}

    def begin_block(self):
        self.blocks.append({})
        self.taken_before.append(self.taken)

    def end_block(self):
        self.blocks.pop()
        self.taken = self.taken_before.pop()

    def take_place(self):
        place = self.taken
        self.taken += 1
        self.places = max(self.places, self.taken)
        return place

    def tells(self, name):
        """Whether the innermost block tells the name."""
        return name in self.blocks[-1]

    def tell(self, name):
        variable = Variable(self.level, self.take_place())
        self.blocks[-1][name] = variable
        return variable

    def find_variable(self, name):
        """The variable that the name stands for here, or None."""
        for block in reversed(self.blocks):
            if name in block:
                return block[name]
        return None

    def catch_number(self, variable, around):
        """The variable's number among what this function catches; around is the scope around it."""
        # While a function is made no block around it ends, so level and place belong to one variable.
        key = (variable.level, variable.place)
        if key not in self.catch_numbers:
            self.catch_numbers[key] = len(self.catches)
            if around.level == variable.level:
                self.catches.append((0, variable.place))
            else:
                self.catches.append((1, around.catch_numbers[key]))
        return self.catch_numbers[key]
