"""What the steps of one module are made with: its names, and the functions that are being made."""

from madeimage.drafts import Draft
from madeimage.wrong import Wrong


class Maker:
    """The drafts are the functions that one is in, from the module's body inward; the last is the draft."""

    def __init__(self, program, number):
        self.program = program
        self.number = number
        self.told = {}
        self.ahead = program.outermost_meanings(number)
        self.use_names_ahead = program.use_names(number)
        self.given = {}
        self.drafts = []
        self.draft = None
        self.line = 1

    def begin_draft(self, name, line, column):
        self.draft = Draft(len(self.drafts), name, line, column)
        self.drafts.append(self.draft)
        self.program.functions.append(self.draft)

    def end_draft(self, last_line):
        """End the function with its last two instructions, and check its size."""
        self.line = last_line
        self.make("nothing")
        self.make("back")
        draft = self.drafts.pop()
        if draft.is_too_large():
            raise Wrong(6, draft.line, draft.column)
        draft.settle()
        if draft.is_too_long_settled() and self.program.first_too_long is None:
            self.program.first_too_long = (self.number, draft.line, draft.column)
        self.draft = self.drafts[-1] if len(self.drafts) > 0 else None

    def make(self, instruction, first=0, second=0):
        self.draft.assembly.add_row(instruction, first, second, self.line)

    def make_for_variable(self, row, variable):
        self.draft.assembly.add_variable_row(row, variable, self.line)

    def is_outermost(self):
        return len(self.drafts) == 1 and len(self.draft.scope.blocks) == 1

    def is_in_function(self):
        return len(self.drafts) > 1

    def check_outermost(self, word):
        if not self.is_outermost():
            raise Wrong(5, word.line, word.column)

    def check_new(self, name):
        is_told = name.value in self.told if self.is_outermost() else self.draft.scope.tells(name.value)
        if is_told:
            raise Wrong(4, name.line, name.column)

    def tell_outermost(self, name):
        # No name is told twice, so the first telling, which is the one ahead, is this one.
        self.told[name.value] = self.ahead[name.value]

    def tell_value(self, name):
        """Tell a name for the value that's on the stack."""
        if self.is_outermost():
            self.tell_outermost(name)
            self.make("set", self.told[name.value][1])
        else:
            self.make_for_variable("tell variable", self.draft.scope.tell(name.value))

    def find_variable(self, name):
        for draft in reversed(self.drafts):
            variable = draft.scope.find_variable(name)
            if variable is not None:
                return variable
        return None

    def meaning(self, name):
        """What the name stands for: "variable" and it, or the instruction that gets it and its number."""
        variable = self.find_variable(name.value)
        if variable is not None:
            return self.meaning_of_variable(variable)
        known = self.ahead if self.is_in_function() else self.told
        if name.value not in known:
            raise Wrong(3, name.line, name.column)
        return known[name.value]

    def meaning_of_variable(self, variable):
        if variable.level == self.draft.scope.level:
            return ("variable", variable)
        variable.is_caught = True
        number = 0
        for level in range(variable.level + 1, len(self.drafts)):
            number = self.drafts[level].scope.catch_number(variable, self.drafts[level - 1].scope)
        return ("caught", number)

    def target(self, name):
        """What the name stands for left of =; a use's name is never assigned."""
        meaning = self.meaning(name)
        if meaning[0] == "module" or meaning[0] == "global" and self.is_use_ahead(name):
            raise Wrong(5, name.line, name.column)
        return meaning

    def is_use_ahead(self, name):
        # A name that let or fn tells as well is a use's name in functions before its second telling is met.
        return self.is_in_function() and name.value in self.use_names_ahead
