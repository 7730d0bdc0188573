"""The errors that stand for a refused input, and the kinds of fault that a line of a text may have."""

OTHER_LINE = 1
OUT_OF_BOUNDS = 2
OUT_OF_ORDER = 3
PLACE_IN_COMMON = 4
TOO_MANY = 5


class Refusal(Exception):

    def __init__(self, number):
        self.number = number


class TooLong(Refusal):

    def __init__(self):
        Refusal.__init__(self, -1)


class WallFault(Refusal):

    def __init__(self, line, kind):
        Refusal.__init__(self, -6)
        self.line = line
        self.kind = kind


# Who reads a line doesn't know its number in the whole text: who hands the lines out adds it.
class LineFault(Exception):

    def __init__(self, kind):
        self.kind = kind
