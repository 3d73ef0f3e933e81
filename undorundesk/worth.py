"""Works out what expressions are worth.

Cells are the variables that are seen, each as a list of its words: a single word is a list of one.
In the expressions here a name's value is no longer a text, but which of the cells it means.
"""

from undorundesk.refusals import DividedByZero, OutsideRow

# All is modulo this.
MODULUS = 4294967296


def either(left, right):
    return left | right


def differing(left, right):
    return left ^ right


def both(left, right):
    return left & right


def is_same(left, right):
    return 1 if left == right else 0


def is_other(left, right):
    return 1 if left != right else 0


def is_at_most(left, right):
    return 1 if left <= right else 0


def is_less(left, right):
    return 1 if left < right else 0


def plus(left, right):
    return (left + right) % MODULUS


def minus(left, right):
    return (left - right) % MODULUS


def times(left, right):
    return left * right % MODULUS


def quotient(left, right):
    return left // right


def remainder(left, right):
    return left % right


OPERATIONS = {
    "|": either, "^": differing, "&": both, "=": is_same, "!=": is_other, "<=": is_at_most, "<": is_less,
    "+": plus, "-": minus, "*": times, "/": quotient, "rest": remainder,
}
DIVISIONS = ("/", "rest")


def work_out(parts, cells):
    """What the expression is worth; its parts are taken as they stand, so from left to right."""
    worths = []
    for part in parts:
        kind = part.kind
        if kind == "name":
            worths.append(cells[part.value][0])
        elif kind == "number":
            worths.append(part.value)
        elif kind == "row":
            row = cells[part.value]
            worths.append(row[index_within(row, worths.pop(), part.place)])
        elif kind == "!":
            worths.append(1 if worths.pop() == 0 else 0)
        else:
            right = worths.pop()
            if right == 0 and kind in DIVISIONS:
                raise DividedByZero(part.place)
            worths.append(OPERATIONS[kind](worths.pop(), right))
    return worths[0]


def index_within(row, index, place):
    """The index, once it is sure that the row, whose name stands at this place, has such a word."""
    if index >= len(row):
        raise OutsideRow(place)
    return index


class Target:
    """A variable that is to be changed: which of the cells it is, and where its index is worked out from."""

    def __init__(self, variable):
        name = variable[-1]
        self.cell = name.value
        self.place = name.place
        self.inner = variable[:-1] if name.kind == "row" else None

    def find_index(self, cells):
        """Which word of its cell the variable is."""
        if self.inner is None:
            return 0
        return index_within(cells[self.cell], work_out(self.inner, cells), self.place)
