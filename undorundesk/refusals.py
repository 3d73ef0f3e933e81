"""The refusals: each is raised where it is come to, and answered as its number."""


class Refusal(Exception):
    """What all refusals have: the number that is answered."""

    def __init__(self, number):
        self.number = number


class OutOfRange(Refusal):
    """What is handed in is larger or smaller than it may be."""

    def __init__(self):
        Refusal.__init__(self, -2)


class NoRoom(Refusal):
    """What is answered has more bytes than it may."""

    def __init__(self):
        Refusal.__init__(self, -1)


class Misplaced(Refusal):
    """A token, or the text's end, can't stand where it does."""

    def __init__(self, place):
        Refusal.__init__(self, -100 - place)


class OverLimit(Refusal):
    """The text goes over one of its limits."""

    def __init__(self):
        Refusal.__init__(self, -5)


class RuleBroken(Refusal):
    """The text keeps to the grammar, but breaks a rule."""

    def __init__(self, place):
        Refusal.__init__(self, -1000000 - place)


class StepsOver(Refusal):
    """A run needs one more step than it may take."""

    def __init__(self):
        Refusal.__init__(self, -6)


class DividedByZero(Refusal):
    """The / or the sign for the rest at this place is by 0."""

    def __init__(self, place):
        Refusal.__init__(self, -2000000 - place)


class OutsideRow(Refusal):
    """The row named at this place is asked for a word that it hasn't."""

    def __init__(self, place):
        Refusal.__init__(self, -3000000 - place)


class NotAsItMust(Refusal):
    """What the word at this place asks for doesn't hold."""

    def __init__(self, place):
        Refusal.__init__(self, -4000000 - place)
