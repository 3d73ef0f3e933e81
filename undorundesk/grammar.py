"""Reads a text by its grammar, up to the first token that can't stand or the first limit.

The calls nest no deeper than {, (, [ and ! may, which is little; what follows one another,
statements or operands, is read by loops.
"""

from undorundesk.refusals import Misplaced, OverLimit
from undorundesk.tokens import Scanner, Token
from undorundesk.tree import Call, Change, Declared, Forked, Local, Procedure, Program, Skip, Swap

DEEPEST = 32

# How tightly an operator binds its operands.
STRENGTHS = {
    "|": 1, "^": 2, "&": 3, "=": 4, "!=": 4, "<=": 4, "<": 4, "+": 5, "-": 5, "*": 6, "/": 6, "rest": 6,
}

CHANGES = ("+=", "-=", "^=")


def release(waiting, found, strength):
    """Lets go the waiting operators that bind at least so tightly: their operands are complete."""
    while len(waiting) > 0 and STRENGTHS[waiting[-1].kind] >= strength:
        found.append(waiting.pop())


class Parser:
    """Keeps one token ahead; a token is gone past only once it is known that it can stand."""

    def __init__(self, text):
        self.scanner = Scanner(text)
        self.token = self.scanner.scan()
        self.depth = 0

    def take(self, kind):
        """Goes past the next token, where none but one of this kind can stand, and gives it back."""
        taken = self.token
        if taken.kind != kind:
            raise Misplaced(taken.place)
        self.token = self.scanner.scan()
        return taken

    def passes(self, kind):
        """Goes past the next token if it is of this kind; tells whether it was."""
        if self.token.kind != kind:
            return False
        self.take(kind)
        return True

    def enter(self, kind):
        """Takes a token that others stand within, and that the limit therefore counts."""
        if self.token.kind == kind and self.depth == DEEPEST:
            raise OverLimit()
        self.depth += 1
        return self.take(kind)

    def leave(self, kind):
        self.depth -= 1
        self.take(kind)

    def read_program(self):
        global_names = self.read_globals()
        procedures = []
        while self.token.kind == "proc":
            procedures.append(self.read_procedure())
        self.take("main")
        main = self.read_block()
        self.take("end")
        return Program(global_names, procedures, main)

    def read_globals(self):
        if not self.passes("int"):
            return []
        found = [self.read_global()]
        while self.passes(","):
            found.append(self.read_global())
        self.take(";")
        return found

    def read_global(self):
        name = self.take("name")
        if not self.passes("["):
            return Declared(name, False, 1, None)
        number = self.take("number")
        self.take("]")
        return Declared(name, True, number.value, number)

    def read_procedure(self):
        self.take("proc")
        name = self.take("name")
        self.take("(")
        parameters = self.read_parameters()
        self.take(")")
        return Procedure(name, parameters, self.read_block())

    def read_parameters(self):
        if self.token.kind == ")":
            return []
        found = [self.read_parameter()]
        while self.passes(","):
            found.append(self.read_parameter())
        return found

    def read_parameter(self):
        name = self.take("name")
        if not self.passes("["):
            return Declared(name, False, None, None)
        self.take("]")
        return Declared(name, True, None, None)

    def read_block(self):
        self.enter("{")
        statements = []
        while self.token.kind != "}":
            statements.append(self.read_statement())
        self.leave("}")
        return statements

    def read_statement(self):
        kind = self.token.kind
        if kind == "name":
            statement = self.read_change()
        elif kind == "if":
            statement = self.read_if()
        elif kind == "from":
            statement = self.read_from()
        elif kind in ("call", "uncall"):
            statement = self.read_call(kind)
        elif kind == "local":
            statement = self.read_local()
        else:
            self.take("skip")
            statement = Skip()
        self.take(";")
        return statement

    def read_change(self):
        variable = self.read_variable()
        if self.token.kind in CHANGES:
            sign = self.take(self.token.kind).kind
            return Change(variable, sign, self.read_expression())
        self.take("<=>")
        return Swap(variable, self.read_variable())

    def read_if(self):
        opening = self.take("if").place
        before = self.read_expression()
        first = self.read_block()
        self.take("else")
        second = self.read_block()
        closing = self.take("fi").place
        return Forked("if", opening, before, first, second, closing, self.read_expression())

    def read_from(self):
        opening = self.take("from").place
        before = self.read_expression()
        self.take("do")
        first = self.read_block()
        self.take("loop")
        second = self.read_block()
        closing = self.take("until").place
        return Forked("from", opening, before, first, second, closing, self.read_expression())

    def read_call(self, kind):
        self.take(kind)
        procedure = self.take("name")
        self.take("(")
        handed = self.read_handed()
        self.take(")")
        return Call(kind, procedure, handed)

    def read_handed(self):
        if self.token.kind == ")":
            return []
        found = [self.take("name")]
        while self.passes(","):
            found.append(self.take("name"))
        return found

    def read_local(self):
        opening = self.take("local").place
        name = self.take("name")
        self.take("=")
        before = self.read_expression()
        block = self.read_block()
        closing = self.take("delocal").place
        return Local(opening, name, before, block, closing, self.read_expression())

    def read_expression(self):
        found = self.read_operand()
        waiting = []
        while self.token.kind in STRENGTHS:
            release(waiting, found, STRENGTHS[self.token.kind])
            waiting.append(self.take(self.token.kind))
            found.extend(self.read_operand())
        release(waiting, found, 0)
        return found

    def read_operand(self):
        """An operand with the ! ahead of it, which all last until it ends."""
        negations = []
        while self.token.kind == "!":
            negations.append(self.enter("!"))
        found = self.read_plain_operand()
        self.depth -= len(negations)
        found.extend(list(reversed(negations)))
        return found

    def read_plain_operand(self):
        if self.token.kind == "name":
            return self.read_variable()
        if self.token.kind == "number":
            return [self.take("number")]
        self.enter("(")
        found = self.read_expression()
        self.leave(")")
        return found

    def read_variable(self):
        name = self.take("name")
        if self.token.kind != "[":
            return [name]
        self.enter("[")
        found = self.read_expression()
        self.leave("]")
        found.append(Token("row", name.value, name.place, name.spelling))
        return found
