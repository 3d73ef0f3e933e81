"""How the tests ask the program: texts are written as Python texts and handed in as bytes."""

from undorundesk.desk import check

WRONG_TOKEN = -100
WRONG_RULE = -1000000
OVER_LIMIT = [-5]
OUT_OF_RANGE = [-2]


def as_bytes(text):
    return list(text.encode("latin-1"))


def asked(text):
    return check(as_bytes(text))


def misplaced(place):
    return [WRONG_TOKEN - place]


def broken(place):
    return [WRONG_RULE - place]


def marked(text):
    """The text without its one mark @, and the place where the mark stood."""
    place = text.index("@")
    if text.count("@") != 1:
        raise ValueError(text)
    return text.replace("@", ""), place
