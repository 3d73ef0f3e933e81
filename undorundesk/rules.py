"""Looks for the names of a text that break a rule."""

from undorundesk.tree import Call, Change, Forked, Local, Swap


def broken_places(program):
    """Places that break a rule, the least of all among them; none if the text keeps the rules."""
    search = Search(program.procedures)
    search.look_within(program.global_names, program.main)
    for procedure in program.procedures:
        search.look_within(procedure.parameters, procedure.block)
    return search.broken


class Search:
    """What is known while a text is gone through.

    Where it is sure that all that follows stands behind a place already found, it is left out:
    only the least place is asked for.
    """

    def __init__(self, procedures):
        self.broken = []
        self.procedures = {}
        # Of each name that is seen, whether it is a row's.
        self.seen = {}
        for procedure in procedures:
            if procedure.name.value in self.procedures:
                self.broken.append(procedure.name.place)
            else:
                self.procedures[procedure.name.value] = procedure

    def look_within(self, declared, block):
        """Looks at the block of main or of a procedure, where nothing but what is declared is seen."""
        self.seen = {}
        for one in declared:
            if one.name.value in self.seen:
                self.broken.append(one.name.place)
            else:
                self.seen[one.name.value] = one.is_row
        self.look_at_block(block)

    def look_at_block(self, block):
        for statement in block:
            if isinstance(statement, Change):
                self.look_at_change([statement.variable], statement.expression)
            elif isinstance(statement, Swap):
                self.look_at_change([statement.left, statement.right], [])
            elif isinstance(statement, Forked):
                self.look_at_forked(statement)
            elif isinstance(statement, Call):
                self.look_at_call(statement)
            elif isinstance(statement, Local):
                self.look_at_local(statement)

    def look_at_change(self, variables, expression):
        changed = [variable[-1].value for variable in variables]
        for variable in variables:
            self.look_at_names(variable)
            self.keep_out(changed, variable[:-1])
        self.look_at_names(expression)
        self.keep_out(changed, expression)

    def look_at_forked(self, statement):
        self.look_at_names(statement.before)
        self.look_at_block(statement.first)
        self.look_at_block(statement.second)
        self.look_at_names(statement.behind)

    def look_at_call(self, statement):
        procedure = self.procedures.get(statement.procedure.value)
        if procedure is None or len(procedure.parameters) != len(statement.handed):
            self.broken.append(statement.procedure.place)
            return
        met = {}
        for name, parameter in zip(statement.handed, procedure.parameters):
            self.expect(name, parameter.is_row)
            if name.value in met:
                self.broken.append(name.place)
            met[name.value] = True

    def look_at_local(self, statement):
        if statement.name.value in self.seen:
            self.broken.append(statement.name.place)
            return
        self.look_at_names(statement.before)
        self.look_at_names(statement.behind)
        self.seen[statement.name.value] = False
        self.look_at_block(statement.block)
        self.seen.pop(statement.name.value)

    def look_at_names(self, tokens):
        for token in tokens:
            if token.kind in ("name", "row"):
                self.expect(token, token.kind == "row")

    def expect(self, name, is_row):
        # A name that isn't seen has None here, which is as wrong as the other kind.
        if self.seen.get(name.value) != is_row:
            self.broken.append(name.place)

    def keep_out(self, changed, tokens):
        """What a statement changes may not be read by it too, or it couldn't be undone."""
        for token in tokens:
            if token.kind in ("name", "row") and token.value in changed:
                self.broken.append(token.place)
