"""The functions that the program is used by."""

from undorundesk.intake import count_words, take_in
from undorundesk.machine import run_program
from undorundesk.refusals import OutOfRange, Refusal

MOST_STEPS = 1000000


def check(text):
    """A list of one number: how many words the text's globals have, or a refusal."""
    try:
        program = take_in(text)
    except Refusal as refusal:
        return [refusal.number]
    return [count_words(program)]


def run(steps, back, text, words):
    """How many steps a run from these words took, then the words at its end; or a refusal."""
    try:
        if not 1 <= steps <= MOST_STEPS:
            raise OutOfRange()
        program = take_in(text)
        if len(words) != count_words(program):
            raise OutOfRange()
        return run_program(program, steps, back != 0, words)
    except Refusal as refusal:
        return [refusal.number]
