"""Runs a program from words to words."""

from undorundesk.layout import Layout


def run_program(program, steps, is_back, words):
    """How many steps the run took, then the words as they are at its end."""
    machine = Machine(Layout(program, is_back), apart(program.global_names, words), steps)
    machine.run_through()
    answer = [machine.taken]
    for cell in machine.cells:
        answer.extend(cell)
    return answer


def apart(global_names, words):
    """Of each global a list of its words, which are copied."""
    cells = []
    first = 0
    for one in global_names:
        cells.append(words[first:first + one.size])
        first += one.size
    return cells


class Machine:
    """What changes while a run goes on. What a call leaves, to come back to, is kept in lists."""

    def __init__(self, layout, cells, most):
        self.orders = layout.orders
        self.starts = layout.starts
        self.position = layout.main_start
        self.cells = cells
        self.left_positions = []
        self.left_cells = []
        self.most = most
        self.taken = 0

    def run_through(self):
        while self.position < len(self.orders):
            order = self.orders[self.position]
            self.position += 1
            order.perform(self)
