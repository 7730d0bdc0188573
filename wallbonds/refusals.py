"""The errors that stand for a refused input, and the kinds of fault that a line of a text may have."""

OTHER_LINE = 1
OUT_OF_BOUNDS = 2

# Of a wall's line.
OUT_OF_ORDER = 3
PLACE_IN_COMMON = 4
TOO_MANY = 5

# Of a bond's line.
WRONG_LETTER = 3
NINTH_COURSE = 4

# Of a site's line, beside those of a wall's.
NAME_TAKEN = 6
FIFTH_WALL = 7
NO_CORNER = 8
CORNER_OUT_OF_ORDER = 9
END_TAKEN = 10
ENDS_APART = 11

# Of a drawing.
NOT_THE_LINES = 1
NOT_THE_PIECES = 2
NO_FILLING = 3


# What is told is the row of numbers that stands beside the refusal's own number.
class Refusal(Exception):

    def __init__(self, number, told):
        self.number = number
        self.told = told


class TooLong(Refusal):

    def __init__(self):
        Refusal.__init__(self, -1, [])


# Most calls don't tell the line and the kind: so they aren't among what is told.
class TextFault(Refusal):

    def __init__(self, line, kind):
        Refusal.__init__(self, -6, [])
        self.line = line
        self.kind = kind


class Outside(Refusal):

    def __init__(self):
        Refusal.__init__(self, -1, [])


class NotThere(Refusal):

    def __init__(self):
        Refusal.__init__(self, -3, [])


class CannotFillPanel(Refusal):

    def __init__(self, panel):
        Refusal.__init__(self, -3, [panel])
        self.panel = panel


class CannotFillWall(Refusal):

    def __init__(self, wall, panel):
        Refusal.__init__(self, -3, [wall, panel])


class DrawingFault(Refusal):

    def __init__(self, course, place, kind):
        Refusal.__init__(self, -5, [course, place, kind])


# Who reads a line doesn't know its number in the whole text: who hands the lines out adds it.
class LineFault(Exception):

    def __init__(self, kind):
        self.kind = kind
