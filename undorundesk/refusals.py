"""The refusals: each is raised where it is come to, and answered as its number."""


class Refusal(Exception):
    """What all refusals have: the number that is answered."""

    def __init__(self, number):
        self.number = number


class OutOfRange(Refusal):
    """What is handed in is larger or smaller than it may be."""

    def __init__(self):
        Refusal.__init__(self, -2)


class Misplaced(Refusal):
    """A token, or the text's end, can't stand where it does."""

    def __init__(self, place):
        Refusal.__init__(self, -100 - place)


class OverLimit(Refusal):
    """The text goes over one of its limits."""

    def __init__(self):
        Refusal.__init__(self, -5)


class RuleBroken(Refusal):
    """The text keeps to the grammar, but breaks a rule."""

    def __init__(self, place):
        Refusal.__init__(self, -1000000 - place)
