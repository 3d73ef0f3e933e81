"""What a text holds, once it has been found to keep to the grammar.

An expression is a list of tokens in the order in which they are worked out: an operator stands
behind its operands, and a row's name, which then is of the kind "row", behind what stood in its
[ ]. So an expression of any length is gone through by one loop. A variable is such a list too:
its name comes last.
"""


class Program:
    """A whole text: what is declared as global, the procedures, and main's block."""

    def __init__(self, global_names, procedures, main):
        self.global_names = global_names
        self.procedures = procedures
        self.main = main


class Declared:
    """A global or a parameter. The size is a global's number of words; of a parameter none is told."""

    def __init__(self, name, is_row, size):
        self.name = name
        self.is_row = is_row
        self.size = size


class Procedure:
    """A procedure; its block is a list of statements, as every block."""

    def __init__(self, name, parameters, block):
        self.name = name
        self.parameters = parameters
        self.block = block


class Change:
    """v += e, v -= e or v ^= e."""

    def __init__(self, variable, sign, expression):
        self.variable = variable
        self.sign = sign
        self.expression = expression


class Swap:
    """v <=> v."""

    def __init__(self, left, right):
        self.left = left
        self.right = right


class Forked:
    """An if or a from, as its word tells: two blocks, with an expression before and one behind."""

    def __init__(self, word, before, first, second, behind):
        self.word = word
        self.before = before
        self.first = first
        self.second = second
        self.behind = behind


class Call:
    """A call or an uncall, as its word tells."""

    def __init__(self, word, procedure, handed):
        self.word = word
        self.procedure = procedure
        self.handed = handed


class Local:
    """A local variable and the block that it is for."""

    def __init__(self, name, before, block, behind):
        self.name = name
        self.before = before
        self.block = block
        self.behind = behind


class Skip:
    """A statement that does nothing."""

    def __init__(self, word):
        self.word = word
