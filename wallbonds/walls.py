"""Walls: what a wall's text tells, its stretches and its panels."""

from wallbonds.refusals import LineFault, NotThere, Outside
from wallbonds.refusals import OTHER_LINE, OUT_OF_BOUNDS, OUT_OF_ORDER, PLACE_IN_COMMON, TOO_MANY
from wallbonds.texts import bytes_of, field_behind, fields_behind, name_in, number_from_to, number_in, read_lines

HEAD_WORDS = ("wall", "long", "high", "left", "right", "reveal")
OPENING_WORD = "open"
END_WORDS = ("free", "side", "end")
FREE = 0
SIDE = 1
END = 2
MOST_LENGTH = 32
MOST_HEIGHT = 8
MOST_OPENINGS = 8


class Opening:

    def __init__(self, numbers):
        self.x = numbers[0]
        self.y = numbers[1]
        self.wide = numbers[2]
        self.high = numbers[3]

    def lies_within(self, length, height):
        return self.wide > 0 and self.high > 0 and self.x + self.wide <= length and self.y + self.high <= height

    def stands_behind(self, other):
        return (self.y, self.x) > (other.y, other.x)

    def meets(self, other):
        side_by_side = self.x + self.wide <= other.x or other.x + other.wide <= self.x
        one_above_another = self.y + self.high <= other.y or other.y + other.high <= self.y
        return not side_by_side and not one_above_another

    def covers(self, place, course):
        return self.x <= place < self.x + self.wide and self.y <= course < self.y + self.high


class Wall:

    def __init__(self, head, openings):
        self.name = head[0]
        self.length = head[1]
        self.height = head[2]
        self.left = head[3]
        self.right = head[4]
        self.reveal = head[5]
        self.openings = openings

    def is_open(self, place, course):
        return any([opening.covers(place, course) for opening in self.openings])


class Panel:

    def __init__(self, place, course, length, courses):
        self.place = place
        self.course = course
        self.length = length
        self.courses = courses

    def has(self, place, course):
        in_length = self.place <= place < self.place + self.length
        return in_length and self.course <= course < self.course + self.courses


class WallReader:

    def __init__(self):
        self.lines = []
        self.head = []
        self.openings = []

    def has_head(self):
        return len(self.head) == len(HEAD_WORDS)

    def take(self, line):
        if self.has_head():
            self.openings.append(opening_in(line, self.head[1], self.head[2], self.openings))
        else:
            self.head.append(head_value(len(self.head), line))
        self.lines.append(line)

    def take_rest(self, rest):
        if rest != [] or not self.has_head():
            raise LineFault(OTHER_LINE)


def read_wall(text):
    reader = WallReader()
    read_lines(text, reader)
    return Wall(reader.head, reader.openings)


def head_value(number, line):
    field = field_behind(HEAD_WORDS[number], line)
    if number == 0:
        return name_in(field)
    if number == 1:
        return number_from_to(field, 1, MOST_LENGTH)
    if number == 2:
        return number_from_to(field, 1, MOST_HEIGHT)
    return end_in(field)


def end_in(field):
    for number, word in enumerate(END_WORDS):
        if field == bytes_of(word):
            return number
    raise LineFault(OTHER_LINE)


def opening_in(line, length, height, before):
    numbers = [number_in(field) for field in fields_behind(OPENING_WORD, line)]
    if len(numbers) != 4:
        raise LineFault(OTHER_LINE)
    opening = Opening(numbers)
    if not opening.lies_within(length, height):
        raise LineFault(OUT_OF_BOUNDS)
    if before != [] and not opening.stands_behind(before[-1]):
        raise LineFault(OUT_OF_ORDER)
    if any([opening.meets(other) for other in before]):
        raise LineFault(PLACE_IN_COMMON)
    if len(before) == MOST_OPENINGS:
        raise LineFault(TOO_MANY)
    return opening


# A stretch is (first place, length).
def stretches_of(wall, course):
    stretches = []
    first = 0
    for place in range(wall.length + 1):
        if place == wall.length or wall.is_open(place, course):
            if place > first:
                stretches.append((first, place - first))
            first = place + 1
    return stretches


# In this walk the panels come in the order of their numbers.
def panels_of(wall):
    rows = [stretches_of(wall, course) for course in range(wall.height)]
    panels = []
    for course, row in enumerate(rows):
        for stretch in row:
            if course == 0 or stretch not in rows[course - 1]:
                panels.append(Panel(stretch[0], course, stretch[1], courses_with(stretch, rows[course:])))
    return panels


def courses_with(stretch, rows):
    count = 0
    while count < len(rows) and stretch in rows[count]:
        count += 1
    return count


def panel_at(wall, place, course):
    if place >= wall.length or course >= wall.height:
        raise Outside()
    for number, panel in enumerate(panels_of(wall)):
        if panel.has(place, course):
            return number
    raise NotThere()


def ends_of(wall, panel):
    left = wall.left if panel.place == 0 else wall.reveal
    right = wall.right if panel.place + panel.length == wall.length else wall.reveal
    return (left, right)
