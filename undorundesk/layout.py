"""Lays a program out as one list of orders."""

from undorundesk.orders import (
    ChangeWord, Claim, CountStep, EndLocal, EnterProcedure, Jump, JumpIfZero, LeaveProcedure, StartLocal, SwapWords,
)
from undorundesk.tokens import Token
from undorundesk.tree import Call, Change, Forked, Local, Swap
from undorundesk.turning import turned
from undorundesk.worth import Target


class Layout:
    """The orders, and where they begin: of each procedure, on and back, and of main.

    Main comes last, so a run is over where there are no more orders.
    """

    def __init__(self, program, is_back):
        self.orders = []
        self.starts = {}
        # Which of the cells each name that is seen means.
        self.numbers = {}
        self.is_back = False
        for procedure in program.procedures:
            for way in (False, True):
                self.starts[(procedure.name.value, way)] = len(self.orders)
                self.lay_out(procedure.parameters, procedure.block, way)
                self.orders.append(LeaveProcedure())
        self.main_start = len(self.orders)
        self.lay_out(program.global_names, program.main, is_back)

    def lay_out(self, declared, block, is_back):
        """The block of main or of a procedure, where nothing but what is declared is seen."""
        self.numbers = {}
        for one in declared:
            self.numbers[one.name.value] = len(self.numbers)
        self.is_back = is_back
        self.add_block(turned(block) if is_back else block)

    def add_block(self, block):
        for statement in block:
            self.orders.append(CountStep())
            if isinstance(statement, Change):
                self.add_change(statement)
            elif isinstance(statement, Swap):
                self.orders.append(SwapWords(self.make_target(statement.left), self.make_target(statement.right)))
            elif isinstance(statement, Forked) and statement.kind == "if":
                self.add_if(statement)
            elif isinstance(statement, Forked):
                self.add_from(statement)
            elif isinstance(statement, Call):
                self.add_call(statement)
            elif isinstance(statement, Local):
                self.add_local(statement)

    def add_change(self, statement):
        expression = self.numbered(statement.expression)
        self.orders.append(ChangeWord(self.make_target(statement.variable), statement.sign, expression))

    def add_if(self, statement):
        behind = self.numbered(statement.behind)
        to_second = JumpIfZero(self.numbered(statement.before))
        to_end = Jump()
        self.orders.append(to_second)
        self.add_block(statement.first)
        self.orders.append(Claim(behind, False, statement.closing))
        self.orders.append(to_end)
        to_second.goal = len(self.orders)
        self.add_block(statement.second)
        self.orders.append(Claim(behind, True, statement.closing))
        to_end.goal = len(self.orders)

    def add_from(self, statement):
        before = self.numbered(statement.before)
        to_second = JumpIfZero(self.numbered(statement.behind))
        to_end = Jump()
        to_next_round = Jump()
        self.orders.append(Claim(before, False, statement.opening))
        to_next_round.goal = len(self.orders)
        self.orders.append(CountStep())
        self.add_block(statement.first)
        self.orders.append(to_second)
        self.orders.append(to_end)
        to_second.goal = len(self.orders)
        self.add_block(statement.second)
        self.orders.append(Claim(before, True, statement.opening))
        self.orders.append(to_next_round)
        to_end.goal = len(self.orders)

    def add_call(self, statement):
        handed = [self.numbers[name.value] for name in statement.handed]
        # Back within back is on again.
        is_back = (statement.kind == "uncall") != self.is_back
        self.orders.append(EnterProcedure(statement.procedure.value, is_back, handed))

    def add_local(self, statement):
        self.orders.append(StartLocal(self.numbered(statement.before)))
        behind = self.numbered(statement.behind)
        self.numbers[statement.name.value] = len(self.numbers)
        self.add_block(statement.block)
        self.numbers.pop(statement.name.value)
        self.orders.append(EndLocal(behind, statement.closing))

    def make_target(self, variable):
        return Target(self.numbered(variable))

    def numbered(self, tokens):
        """The tokens with, for each name, which of the cells it means."""
        return [self.numbered_token(token) for token in tokens]

    def numbered_token(self, token):
        if token.kind in ("name", "row"):
            return Token(token.kind, self.numbers[token.value], token.place, token.spelling)
        return token
