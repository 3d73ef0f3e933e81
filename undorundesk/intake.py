"""Takes a text in: all that must hold of it, whatever is then done with it."""

from undorundesk.grammar import Parser
from undorundesk.refusals import OutOfRange, OverLimit, RuleBroken
from undorundesk.rules import broken_places

MOST_BYTES = 65536
MOST_WORDS = 4096
MOST_GLOBALS = 256
MOST_PROCEDURES = 256
MOST_PARAMETERS = 16


def take_in(text):
    """The program that the text tells; the refusals come in the order in which they count."""
    if len(text) > MOST_BYTES:
        raise OutOfRange()
    program = Parser(text).read_program()
    broken = broken_places(program)
    if len(broken) > 0:
        raise RuleBroken(min(broken))
    if is_too_large(program):
        raise OverLimit()
    return program


def count_words(program):
    """How many words the globals have."""
    return sum([one.size for one in program.global_names])


def is_too_large(program):
    return (
        count_words(program) > MOST_WORDS
        or len(program.global_names) > MOST_GLOBALS
        or len(program.procedures) > MOST_PROCEDURES
        or any([len(procedure.parameters) > MOST_PARAMETERS for procedure in program.procedures])
    )
