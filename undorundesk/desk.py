"""The functions that the program is used by."""

from undorundesk.intake import count_words, take_in
from undorundesk.machine import run_program
from undorundesk.refusals import NoRoom, OutOfRange, Refusal
from undorundesk.telling import told_program
from undorundesk.turning import turned_program

MOST_STEPS = 1000000


def check(text):
    """A list of one number: how many words the text's globals have, or a refusal."""
    try:
        program = take_in(text)
    except Refusal as refusal:
        return [refusal.number]
    return [count_words(program)]


def run(steps, back, text, words):
    """How many steps a run from these words took, then the words at its end; or a refusal."""
    try:
        if not 1 <= steps <= MOST_STEPS:
            raise OutOfRange()
        program = take_in(text)
        if len(words) != count_words(program):
            raise OutOfRange()
        return run_program(program, steps, back != 0, words)
    except Refusal as refusal:
        return [refusal.number]


def turn(most, text):
    """How many bytes the text turned about has, then these bytes; or a refusal."""
    try:
        told = told_program(turned_program(take_in(text)))
        if len(told) > most:
            raise NoRoom()
        return [len(told)] + told
    except Refusal as refusal:
        return [refusal.number]
