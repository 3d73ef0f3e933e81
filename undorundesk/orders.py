"""The orders that a run goes through, one after another, each done by a machine.

Statements are laid out as orders so that how deep blocks and calls stand within one another makes
no difference: an order is never done within another.
"""

from undorundesk.refusals import NotAsItMust, StepsOver
from undorundesk.worth import differing, minus, plus, work_out


class CountStep:
    """Stands ahead of what counts as one step."""

    def perform(self, machine):
        if machine.taken == machine.most:
            raise StepsOver()
        machine.taken += 1


class ChangeWord:
    """Changes a word by what an expression is worth."""

    def __init__(self, target, sign, expression):
        self.target = target
        self.sign = sign
        self.expression = expression

    def perform(self, machine):
        cells = machine.cells
        index = self.target.find_index(cells)
        worth = work_out(self.expression, cells)
        words = cells[self.target.cell]
        if self.sign == "+=":
            words[index] = plus(words[index], worth)
        elif self.sign == "-=":
            words[index] = minus(words[index], worth)
        else:
            words[index] = differing(words[index], worth)


class SwapWords:
    """Lets two words change places."""

    def __init__(self, left, right):
        self.left = left
        self.right = right

    def perform(self, machine):
        cells = machine.cells
        left_index = self.left.find_index(cells)
        right_index = self.right.find_index(cells)
        left_words = cells[self.left.cell]
        right_words = cells[self.right.cell]
        kept = left_words[left_index]
        left_words[left_index] = right_words[right_index]
        right_words[right_index] = kept


class Jump:
    """Goes on elsewhere; where that is, is told once it is laid out."""

    def __init__(self):
        self.goal = 0

    def perform(self, machine):
        machine.position = self.goal


class JumpIfZero:
    """Goes on elsewhere if the expression is worth 0."""

    def __init__(self, expression):
        self.expression = expression
        self.goal = 0

    def perform(self, machine):
        if work_out(self.expression, machine.cells) == 0:
            machine.position = self.goal


class Claim:
    """The expression must be worth 0, or must not: else the word at this place isn't fulfilled."""

    def __init__(self, expression, is_zero, place):
        self.expression = expression
        self.is_zero = is_zero
        self.place = place

    def perform(self, machine):
        if (work_out(self.expression, machine.cells) == 0) != self.is_zero:
            raise NotAsItMust(self.place)


class StartLocal:
    """Adds a variable to those that are seen."""

    def __init__(self, expression):
        self.expression = expression

    def perform(self, machine):
        machine.cells.append([work_out(self.expression, machine.cells)])


class EndLocal:
    """Takes the newest variable away, if it is worth what it must be."""

    def __init__(self, expression, place):
        self.expression = expression
        self.place = place

    def perform(self, machine):
        words = machine.cells.pop()
        if words[0] != work_out(self.expression, machine.cells):
            raise NotAsItMust(self.place)


class EnterProcedure:
    """Begins a procedure's block, on or back, in which only what is handed over is seen.

    The cells themselves are handed over, not copies: a procedure changes what is handed over.
    """

    def __init__(self, procedure, is_back, handed):
        self.procedure = procedure
        self.is_back = is_back
        self.handed = handed

    def perform(self, machine):
        cells = machine.cells
        machine.left_positions.append(machine.position)
        machine.left_cells.append(cells)
        machine.cells = [cells[one] for one in self.handed]
        machine.position = machine.starts[(self.procedure, self.is_back)]


class LeaveProcedure:
    """Goes on behind the call by which the procedure was begun."""

    def perform(self, machine):
        machine.position = machine.left_positions.pop()
        machine.cells = machine.left_cells.pop()
