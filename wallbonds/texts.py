"""Rows of bytes: their lines, the fields of a line, and what a field tells."""

from wallbonds.refusals import LineFault, OTHER_LINE, OUT_OF_BOUNDS, TextFault

LINE_FEED = 10
BLANK = 32
NOUGHT = 48
NINE = 57
FIRST_CAPITAL = 65
LAST_CAPITAL = 90
FIRST_LETTER = 97
LAST_LETTER = 122
MOST_DIGITS = 5
MOST_NAME_LETTERS = 15


def bytes_of(word):
    return [ord(sign) for sign in word]


# There is always one part more than there are signs: of a text's lines the last is what no line feed ends.
def split_at(row, sign):
    parts = [[]]
    for byte in row:
        if byte == sign:
            parts.append([])
        else:
            parts[-1].append(byte)
    return parts


def lines_joined(lines):
    text = []
    for line in lines:
        text.extend(line)
        text.append(LINE_FEED)
    return text


# A reader takes line by line what the text tells, and then what stands behind the last line feed.
def read_lines(text, reader):
    parts = split_at(text, LINE_FEED)
    for number, line in enumerate(parts[:-1]):
        try:
            reader.take(line)
        except LineFault as fault:
            raise TextFault(number, fault.kind) from fault
    try:
        reader.take_rest(parts[-1])
    except LineFault as fault:
        raise TextFault(len(parts) - 1, fault.kind) from fault


def fields_behind(word, line):
    fields = split_at(line, BLANK)
    if fields[0] != bytes_of(word):
        raise LineFault(OTHER_LINE)
    return fields[1:]


def field_behind(word, line):
    fields = fields_behind(word, line)
    if len(fields) != 1:
        raise LineFault(OTHER_LINE)
    return fields[0]


def number_in(field):
    if not 1 <= len(field) <= MOST_DIGITS:
        raise LineFault(OTHER_LINE)
    if not all([NOUGHT <= byte <= NINE for byte in field]):
        raise LineFault(OTHER_LINE)
    if field[0] == NOUGHT and len(field) > 1:
        raise LineFault(OTHER_LINE)
    number = 0
    for byte in field:
        number = number * 10 + byte - NOUGHT
    return number


def number_from_to(field, least, most):
    number = number_in(field)
    if not least <= number <= most:
        raise LineFault(OUT_OF_BOUNDS)
    return number


def digit_from_to(field, least, most):
    if len(field) != 1:
        raise LineFault(OTHER_LINE)
    return number_from_to(field, least, most)


def name_in(field):
    if field == [] or not all([FIRST_LETTER <= byte <= LAST_LETTER for byte in field]):
        raise LineFault(OTHER_LINE)
    if len(field) > MOST_NAME_LETTERS:
        raise LineFault(OUT_OF_BOUNDS)
    return field


def capitals_in(field):
    if field == [] or not all([FIRST_CAPITAL <= byte <= LAST_CAPITAL for byte in field]):
        raise LineFault(OTHER_LINE)
    return field
