"""What a text holds, once it has been found to keep to the grammar.

An expression is a list of tokens in the order in which they are worked out: an operator stands
behind its operands, and a row's name, which then is of the kind "row", behind what stood in its
[ ]. So an expression of any length is gone through by one loop. A variable is such a list too:
its name comes last.
"""


class Program:
    """A whole text: what is declared as global, the procedures, and main's block."""

    def __init__(self, global_names, procedures, main):
        self.global_names = global_names
        self.procedures = procedures
        self.main = main


class Declared:
    """A global or a parameter. The size is a global's number of words; of a parameter none is told.

    The number is the token by which a global row's size is told; of all others there is none.
    """

    def __init__(self, name, is_row, size, number):
        self.name = name
        self.is_row = is_row
        self.size = size
        self.number = number


class Procedure:
    """A procedure; its block is a list of statements, as every block."""

    def __init__(self, name, parameters, block):
        self.name = name
        self.parameters = parameters
        self.block = block


class Change:
    """v += e, v -= e or v ^= e, as its sign tells."""

    def __init__(self, variable, sign, expression):
        self.variable = variable
        self.sign = sign
        self.expression = expression


class Swap:
    """v <=> v."""

    def __init__(self, left, right):
        self.left = left
        self.right = right


class Forked:
    """An if or a from, as its kind tells: two blocks, with an expression before and one behind.

    Opening is the place of the if or the from, closing that of the fi or the until.
    """

    def __init__(self, kind, opening, before, first, second, closing, behind):
        self.kind = kind
        self.opening = opening
        self.before = before
        self.first = first
        self.second = second
        self.closing = closing
        self.behind = behind


class Call:
    """A call or an uncall, as its kind tells."""

    def __init__(self, kind, procedure, handed):
        self.kind = kind
        self.procedure = procedure
        self.handed = handed


class Local:
    """A local variable and the block that it is for.

    Opening is the place of the local, closing that of the delocal.
    """

    def __init__(self, opening, name, before, block, closing, behind):
        self.opening = opening
        self.name = name
        self.before = before
        self.block = block
        self.closing = closing
        self.behind = behind


class Skip:
    """A statement that does nothing."""
