"""Rows of bytes: their lines, the fields of a line, and what a field tells."""

from wallbonds.refusals import LineFault, OTHER_LINE, OUT_OF_BOUNDS

LINE_FEED = 10
BLANK = 32
NOUGHT = 48
NINE = 57
FIRST_LETTER = 97
LAST_LETTER = 122
MOST_DIGITS = 5
MOST_NAME_LETTERS = 15


def bytes_of(word):
    return [ord(sign) for sign in word]


# There is always one part more than there are signs: of a text's lines the last is what no line feed ends.
def split_at(row, sign):
    parts = [[]]
    for byte in row:
        if byte == sign:
            parts.append([])
        else:
            parts[-1].append(byte)
    return parts


def fields_behind(word, line):
    fields = split_at(line, BLANK)
    if fields[0] != bytes_of(word):
        raise LineFault(OTHER_LINE)
    return fields[1:]


def number_in(field):
    if not 1 <= len(field) <= MOST_DIGITS:
        raise LineFault(OTHER_LINE)
    if not all([NOUGHT <= byte <= NINE for byte in field]):
        raise LineFault(OTHER_LINE)
    if field[0] == NOUGHT and len(field) > 1:
        raise LineFault(OTHER_LINE)
    number = 0
    for byte in field:
        number = number * 10 + byte - NOUGHT
    return number


def name_in(field):
    if field == [] or not all([FIRST_LETTER <= byte <= LAST_LETTER for byte in field]):
        raise LineFault(OTHER_LINE)
    if len(field) > MOST_NAME_LETTERS:
        raise LineFault(OUT_OF_BOUNDS)
    return field
