"""A function's instructions while they are made, before it's known which variables are cells.

A row is an instruction, its two numbers, its line. Where a jump leads is a label until the rows are settled.
Rows on variables ("get variable" and so on) hold the variable first and become instructions when they are settled.
"""

from madeimage.instructions import JUMPS
from madeimage.instructions import growth

# For each row on a variable: the instruction if it's no cell, and if it is one.
VARIABLE_ROWS = {
    "get variable": ("get", "held"), "put variable": ("put", "hold"), "tell variable": ("put", "cell"),
}
# Makes the cell of a variable that fn and its NAME tell, if it's one: as many instructions, or none.
CELL_AHEAD = "cell ahead"


class Assembly:
    """Rows, labels, and the height behind the last row."""

    def __init__(self):
        self.rows = []
        self.labels = []
        self.waiting = []
        self.height = 0
        self.greatest_height = 0
        self.cells_ahead = 0

    def add_row(self, instruction, first, second, line):
        self.rows.append((instruction, first, second, line))
        self.raise_height(growth(instruction, first, second))

    def add_variable_row(self, row, variable, line):
        self.rows.append((row, variable, 0, line))
        self.raise_height(growth(VARIABLE_ROWS[row][0], 0, 0))

    def add_cell_ahead(self, variable, line):
        self.rows.append((CELL_AHEAD, variable, 0, line))
        self.cells_ahead += 1

    def raise_height(self, by):
        self.height += by
        self.greatest_height = max(self.greatest_height, self.height)

    def count_uncaught(self):
        """How many instructions there are if no variable told by fn and its NAME is caught."""
        return len(self.rows) - self.cells_ahead

    def new_label(self):
        self.labels.append(None)
        return len(self.labels) - 1

    def put_label(self, label):
        """Let the label stand before the next row, which always comes: a function's last two do."""
        self.labels[label] = len(self.rows)

    def wait_for_label(self):
        """A new label that the next land puts."""
        label = self.new_label()
        self.waiting.append(label)
        return label

    def land(self):
        self.put_label(self.waiting.pop())

    def settled(self):
        """The instructions, now that it's known what is caught: a list of instruction, first, second, line."""
        settled_rows = []
        starts = []
        for row in self.rows:
            starts.append(len(settled_rows))
            add_settled(settled_rows, row)
        return [self.with_target(row, starts) for row in settled_rows]

    def with_target(self, row, starts):
        if row[0] not in JUMPS:
            return row
        return (row[0], starts[self.labels[row[1]]], 0, row[3])


def add_settled(settled_rows, row):
    variable = row[1]
    line = row[3]
    if row[0] in VARIABLE_ROWS:
        choice = VARIABLE_ROWS[row[0]][1 if variable.is_caught else 0]
        settled_rows.append((choice, variable.place, 0, line))
    elif row[0] != CELL_AHEAD:
        settled_rows.append(row)
    elif variable.is_caught:
        settled_rows.append(("nothing", 0, 0, line))
        settled_rows.append(("cell", variable.place, 0, line))
