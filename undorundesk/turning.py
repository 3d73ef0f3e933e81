"""Turns blocks about: done on, what is turned does as the block itself does when it is done back.

Calls stay as they are: what a block turned about calls is to be turned about too.
"""

from undorundesk.tree import Change, Forked, Local, Procedure, Program

UNDONE_BY = {"+=": "-=", "-=": "+=", "^=": "^="}


def turned_program(program):
    """The program with every block turned about, so that calls may stay as they are."""
    procedures = [turned_procedure(procedure) for procedure in program.procedures]
    return Program(program.global_names, procedures, turned(program.main))


def turned_procedure(procedure):
    return Procedure(procedure.name, procedure.parameters, turned(procedure.block))


def turned(block):
    return [turned_statement(statement) for statement in reversed(block)]


def turned_statement(statement):
    if isinstance(statement, Change):
        return Change(statement.variable, UNDONE_BY[statement.sign], statement.expression)
    if isinstance(statement, Forked):
        return turned_forked(statement)
    if isinstance(statement, Local):
        return turned_local(statement)
    return statement


def turned_forked(statement):
    # The places change too, so that each stays with the expression that it stands beside.
    return Forked(
        statement.kind, statement.closing, statement.behind,
        turned(statement.first), turned(statement.second),
        statement.opening, statement.before,
    )


def turned_local(statement):
    return Local(
        statement.closing, statement.name, statement.behind,
        turned(statement.block),
        statement.opening, statement.before,
    )
