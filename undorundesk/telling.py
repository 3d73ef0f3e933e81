"""Tells a program as bytes: one token after another, each with a blank or a line feed behind it.

Names, numbers and operators are told as they stood in the text that the program was read from.
"""

from undorundesk.grammar import STRENGTHS
from undorundesk.tokens import LINE_END
from undorundesk.tree import Call, Change, Forked, Local, Swap

BLANK = 32

# What ends a row of the told text.
LAST_OF_ROW = ("{", "}", ";")

# An operand holds together beside any operator.
OPERAND_STRENGTH = 7


def told_program(program):
    teller = Teller()
    teller.tell_program(program)
    return teller.told


def told_word(word):
    """A keyword or a sign as it is told."""
    return [ord(letter) for letter in word] + [LINE_END if word in LAST_OF_ROW else BLANK]


def told_token(token):
    """A token that stands in an expression, or a name, as it is told."""
    return token.spelling + [BLANK]


def told_expression(parts):
    pieces = []
    for part in parts:
        if part.kind in ("name", "number"):
            pieces.append(Piece(told_token(part), OPERAND_STRENGTH))
        elif part.kind == "row":
            index = told_word("[") + pieces.pop().told + told_word("]")
            pieces.append(Piece(told_token(part) + index, OPERAND_STRENGTH))
        elif part.kind == "!":
            operand = enclosed(pieces.pop(), OPERAND_STRENGTH)
            pieces.append(Piece(told_token(part) + operand, OPERAND_STRENGTH))
        else:
            right = pieces.pop()
            pieces.append(joined(pieces.pop(), part, right))
    return pieces[0].told


def joined(left, operator, right):
    strength = STRENGTHS[operator.kind]
    # The left piece is made longer, not copied: else a long expression would be copied for each operand.
    told = enclosed(left, strength)
    told.extend(told_token(operator))
    # Operators are grouped from the left, so on the right one that binds as tightly would come apart.
    told.extend(enclosed(right, strength + 1))
    return Piece(told, strength)


def enclosed(piece, least):
    """The piece as it is told where all that binds less tightly than this comes apart without ( )."""
    if piece.strength >= least:
        return piece.told
    return told_word("(") + piece.told + told_word(")")


class Piece:
    """A part of an expression as it is told, and how tightly the operator binds that holds it together."""

    def __init__(self, told, strength):
        self.told = told
        self.strength = strength


class Teller:
    """Keeps what is told so far. Its calls nest as blocks do, which is little."""

    def __init__(self):
        self.told = []

    def tell_word(self, word):
        self.told.extend(told_word(word))

    def tell_token(self, token):
        self.told.extend(told_token(token))

    def tell_expression(self, parts):
        """An expression or a variable."""
        self.told.extend(told_expression(parts))

    def tell_program(self, program):
        if len(program.global_names) > 0:
            self.tell_word("int")
            self.tell_declared(program.global_names)
            self.tell_word(";")
        for procedure in program.procedures:
            self.tell_procedure(procedure)
        self.tell_word("main")
        self.tell_block(program.main)

    def tell_procedure(self, procedure):
        self.tell_word("proc")
        self.tell_token(procedure.name)
        self.tell_word("(")
        self.tell_declared(procedure.parameters)
        self.tell_word(")")
        self.tell_block(procedure.block)

    def tell_declared(self, declared):
        for count, one in enumerate(declared):
            if count > 0:
                self.tell_word(",")
            self.tell_token(one.name)
            if one.is_row:
                self.tell_size(one)

    def tell_size(self, row):
        self.tell_word("[")
        if row.number is not None:
            self.tell_token(row.number)
        self.tell_word("]")

    def tell_block(self, block):
        self.tell_word("{")
        for statement in block:
            self.tell_statement(statement)
            self.tell_word(";")
        self.tell_word("}")

    def tell_statement(self, statement):
        if isinstance(statement, Change):
            self.tell_change(statement.variable, statement.sign, statement.expression)
        elif isinstance(statement, Swap):
            self.tell_change(statement.left, "<=>", statement.right)
        elif isinstance(statement, Forked) and statement.kind == "if":
            self.tell_if(statement)
        elif isinstance(statement, Forked):
            self.tell_from(statement)
        elif isinstance(statement, Call):
            self.tell_call(statement)
        elif isinstance(statement, Local):
            self.tell_local(statement)
        else:
            self.tell_word("skip")

    def tell_change(self, variable, sign, behind):
        self.tell_expression(variable)
        self.tell_word(sign)
        self.tell_expression(behind)

    def tell_if(self, statement):
        self.tell_word("if")
        self.tell_expression(statement.before)
        self.tell_block(statement.first)
        self.tell_word("else")
        self.tell_block(statement.second)
        self.tell_word("fi")
        self.tell_expression(statement.behind)

    def tell_from(self, statement):
        self.tell_word("from")
        self.tell_expression(statement.before)
        self.tell_word("do")
        self.tell_block(statement.first)
        self.tell_word("loop")
        self.tell_block(statement.second)
        self.tell_word("until")
        self.tell_expression(statement.behind)

    def tell_call(self, statement):
        self.tell_word(statement.kind)
        self.tell_token(statement.procedure)
        self.tell_word("(")
        for count, name in enumerate(statement.handed):
            if count > 0:
                self.tell_word(",")
            self.tell_token(name)
        self.tell_word(")")

    def tell_local(self, statement):
        self.tell_word("local")
        self.tell_token(statement.name)
        self.tell_word("=")
        self.tell_expression(statement.before)
        self.tell_block(statement.block)
        self.tell_word("delocal")
        self.tell_expression(statement.behind)
