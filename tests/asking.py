"""How the tests ask the program: texts are written as Python texts and handed in as bytes."""

import unittest

from undorundesk.desk import check, run, turn

WRONG_TOKEN = -100
WRONG_RULE = -1000000
BY_ZERO = -2000000
OUTSIDE_ROW = -3000000
NOT_AS_IT_MUST = -4000000
OVER_LIMIT = [-5]
OUT_OF_RANGE = [-2]
NO_ROOM = [-1]
STEPS_OVER = [-6]

MOST_STEPS = 1000000
LARGEST = 4294967295
LARGEST_MOST = 2147483647


def as_bytes(text):
    return list(text.encode("latin-1"))


def asked(text):
    return check(as_bytes(text))


def ran(text, words=(), steps=MOST_STEPS):
    return run(steps, 0, as_bytes(text), list(words))


def ran_back(text, words=(), steps=MOST_STEPS):
    return run(steps, 1, as_bytes(text), list(words))


def about(text):
    """The text turned about, as a Python text."""
    answer = turn(LARGEST_MOST, as_bytes(text))
    if answer[0] < 0 or len(answer) != answer[0] + 1:
        raise ValueError(answer[:2])
    return bytes(answer[1:]).decode("latin-1")


def misplaced(place):
    return [WRONG_TOKEN - place]


def broken(place):
    return [WRONG_RULE - place]


def by_zero(place):
    return [BY_ZERO - place]


def outside(place):
    return [OUTSIDE_ROW - place]


def unfulfilled(place):
    return [NOT_AS_IT_MUST - place]


def marked(text):
    """The text without its one mark @, and the place where the mark stood."""
    place = text.index("@")
    if text.count("@") != 1:
        raise ValueError(text)
    return text.replace("@", ""), place


class BothWays(unittest.TestCase):
    def assert_both(self, text, before, steps, behind):
        """On it makes these words of those, and back those of these."""
        with self.subTest(text):
            self.assertEqual(ran(text, before), [steps] + behind)
            self.assertEqual(ran_back(text, behind), [steps] + before)
