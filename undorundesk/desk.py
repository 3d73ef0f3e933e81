"""The functions that the program is used by."""

from undorundesk.intake import count_words, take_in
from undorundesk.refusals import Refusal


def check(text):
    """A list of one number: how many words the text's globals have, or a refusal."""
    try:
        program = take_in(text)
    except Refusal as refusal:
        return [refusal.number]
    return [count_words(program)]
