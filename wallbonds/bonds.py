"""Bonds: what a bond's text tells, and which rows keep a course."""

from wallbonds.refusals import LineFault, NINTH_COURSE, OTHER_LINE, OUT_OF_BOUNDS, WRONG_LETTER
from wallbonds.rows import BRICK_END, BRICK_SIDE, LENGTHS, LETTERS, length_of
from wallbonds.texts import bytes_of, capitals_in, digit_from_to, field_behind, name_in, read_lines

MOST_LAP = 3
MOST_MOST = 2
MOST_COURSES = 8
MOST_PATTERN = 8


class Bond:

    def __init__(self, lap, most, makes, patterns):
        self.lap = lap
        self.most = most
        self.makes = makes
        self.patterns = patterns

    def pattern_of(self, course):
        return self.patterns[course % len(self.patterns)]


class BondReader:

    def __init__(self):
        self.taken = 0
        self.lap = 0
        self.most = 0
        self.makes = ()
        self.patterns = []

    def take(self, line):
        if self.taken == 0:
            name_in(field_behind("bond", line))
        elif self.taken == 1:
            self.lap = digit_from_to(field_behind("lap", line), 1, MOST_LAP)
        elif self.taken == 2:
            self.most = digit_from_to(field_behind("most", line), 0, MOST_MOST)
        elif self.taken == 3 and self.most > 0:
            self.makes = makes_in(field_behind("makes", line))
        else:
            self.take_course(field_behind("course", line))
        self.taken += 1

    def take_course(self, field):
        pattern = pattern_in(field)
        if len(self.patterns) == MOST_COURSES:
            raise LineFault(NINTH_COURSE)
        self.patterns.append(pattern)

    def take_rest(self, rest):
        if rest != [] or self.patterns == []:
            raise LineFault(OTHER_LINE)


def read_bond(text):
    reader = BondReader()
    read_lines(text, reader)
    return Bond(reader.lap, reader.most, reader.makes, reader.patterns)


def makes_in(field):
    pieces = pieces_in(capitals_in(field))
    for number in range(1, len(pieces)):
        if pieces[number] <= pieces[number - 1]:
            raise LineFault(WRONG_LETTER)
    return pieces


def pattern_in(field):
    if len(capitals_in(field)) > MOST_PATTERN:
        raise LineFault(OUT_OF_BOUNDS)
    pieces = pieces_in(field)
    if not all([piece in (BRICK_SIDE, BRICK_END) for piece in pieces]):
        raise LineFault(WRONG_LETTER)
    return pieces


def pieces_in(field):
    letters = bytes_of(LETTERS)
    if not all([byte in letters for byte in field]):
        raise LineFault(WRONG_LETTER)
    return tuple([letters.index(byte) for byte in field])


def keeps_course(bond, row, course):
    for left in range(min(bond.most, len(row)) + 1):
        for right in range(min(bond.most, len(row) - left) + 1):
            end = len(row) - right
            made_up = all([piece in bond.makes for piece in row[:left] + row[end:]])
            if made_up and repeats(row[left:end], bond.pattern_of(course)):
                return True
    return False


def repeats(row, pattern):
    return any([row == repeated(pattern, start, len(row)) for start in range(len(pattern))])


def repeated(pattern, start, count):
    return tuple([pattern[(start + step) % len(pattern)] for step in range(count)])


# The rows of a length that keep the course: some of them more than once.
def rows_keeping(bond, course, length):
    rows = []
    made_up = made_up_rows(bond)
    by_length = rows_by_length(made_up)
    for left in made_up:
        for start in range(len(bond.pattern_of(course))):
            rows.extend(rows_begun(left, bond.pattern_of(course), start, length, by_length))
    return rows


def made_up_rows(bond):
    rows = [()]
    longest = [()]
    while len(longest[0]) < bond.most:
        longer = []
        for row in longest:
            longer.extend([row + (piece,) for piece in bond.makes])
        longest = longer
        rows.extend(longest)
    return rows


def rows_by_length(rows):
    by_length = {}
    for row in rows:
        by_length.setdefault(length_of(row), []).append(row)
    return by_length


# Rows with the pieces made up at the left, then the pattern from its piece number start on.
def rows_begun(left, pattern, start, length, by_length):
    rows = []
    begun = left
    rest = length - length_of(left)
    number = start
    while rest >= 0:
        rows.extend([begun + right for right in by_length.get(rest, [])])
        piece = pattern[number % len(pattern)]
        begun = begun + (piece,)
        rest -= LENGTHS[piece]
        number += 1
    return rows
