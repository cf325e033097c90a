"""All modules together: their names, outlines, who uses whom, and the functions made so far."""

MOST_FUNCTIONS = 1000


class Program:
    """What the making of each module needs to know of the others, and adds to."""

    def __init__(self, names):
        self.names = names
        self.numbers = {}
        for number, name in enumerate(names):
            self.numbers[name] = number
        self.outlines = []
        self.functions = []
        self.bodies = []
        self.common_counts = []
        self.first_too_long = None

    def is_full(self):
        return len(self.functions) >= MOST_FUNCTIONS

    def has_too_many_functions(self):
        return len(self.functions) > MOST_FUNCTIONS

    def used_by(self, number):
        """The numbers of the modules that this one uses itself."""
        tellings = self.outlines[number].tellings
        return [self.numbers[telling[1]] for telling in tellings if telling[1] in self.numbers]

    def leads(self, user, goal):
        """Whether the user is the goal or uses it, on whatever way."""
        seen = {user: True}
        waiting = [user]
        while len(waiting) > 0:
            number = waiting.pop()
            for used in self.used_by(number):
                if used not in seen:
                    seen[used] = True
                    waiting.append(used)
        return goal in seen

    def use_names(self, number):
        """The names that the module's uses tell, of modules that are there or not."""
        names = {}
        for telling in self.outlines[number].tellings:
            if telling[1] is not None:
                names[telling[0]] = True
        return names

    def outermost_meanings(self, number):
        """What each name that the module's outermost tells stands for, told first or later."""
        meanings = {}
        commons = 0
        for telling in self.outlines[number].tellings:
            if telling[1] is None:
                meanings.setdefault(telling[0], ("global", commons))
                commons += 1
            else:
                # A use of no module is told as wrong when it's met, whatever it stands for till then.
                meanings.setdefault(telling[0], ("module", self.numbers.get(telling[1], 0)))
        return meanings
