"""Sites: what a site's text tells, the corners of its walls, its parts and rings."""

from wallbonds.refusals import CORNER_OUT_OF_ORDER, ENDS_APART, END_TAKEN, FIFTH_WALL, LineFault, NAME_TAKEN
from wallbonds.refusals import NO_CORNER, OTHER_LINE
from wallbonds.texts import BLANK, bytes_of, lines_joined, read_lines, split_at
from wallbonds.walls import END, SIDE, Wall, WallReader

WALL_START = "wall "
CORNER_START = "corner "
CORNER_WORD = "corner"
CORNER_ENDS = ("left", "right")
LEFT = 0
MOST_WALLS = 4
LEAST_BETWEEN_CORNERS = 5


# Both are ends: pairs of a wall's number and left or right.
class Corner:

    def __init__(self, first, second):
        self.first = first
        self.second = second


class Site:

    def __init__(self, walls, texts, corners):
        self.walls = walls
        self.texts = texts
        self.corners = corners


class SiteReader:

    def __init__(self):
        self.readers = []
        self.corners = []

    def in_head(self):
        return self.readers == [] or not self.readers[-1].has_head()

    def walls_read(self):
        return [Wall(reader.head, reader.openings) for reader in self.readers]

    def take(self, line):
        if self.readers == []:
            self.begin_wall(line)
        elif self.in_head():
            self.readers[-1].take(line)
        elif self.corners != [] or begins_with(line, CORNER_START):
            self.corners.append(corner_in(line, self.walls_read(), self.corners))
        elif begins_with(line, WALL_START):
            self.begin_wall(line)
        else:
            self.readers[-1].take(line)

    def begin_wall(self, line):
        reader = WallReader()
        reader.take(line)
        if reader.head[0] in [before.head[0] for before in self.readers]:
            raise LineFault(NAME_TAKEN)
        if len(self.readers) == MOST_WALLS:
            raise LineFault(FIFTH_WALL)
        self.readers.append(reader)

    # A wall's first lines must stand there before any corner's can: so within them it's a wall's fault.
    def take_rest(self, rest):
        if self.in_head():
            raise LineFault(OTHER_LINE)
        if rest != [] and (self.corners != [] or begins_with(rest, CORNER_START)):
            raise LineFault(NO_CORNER)
        if rest != []:
            raise LineFault(OTHER_LINE)


def read_site(text):
    reader = SiteReader()
    read_lines(text, reader)
    texts = [lines_joined(wall_reader.lines) for wall_reader in reader.readers]
    return Site(reader.walls_read(), texts, reader.corners)


def begins_with(line, start):
    return line[:len(start)] == bytes_of(start)


def corner_in(line, walls, before):
    corner = corner_told(line, walls)
    if before != [] and corner.first <= before[-1].first:
        raise LineFault(CORNER_OUT_OF_ORDER)
    taken = ends_taken(before)
    if corner.first in taken or corner.second in taken:
        raise LineFault(END_TAKEN)
    if not go_together(corner, walls, taken):
        raise LineFault(ENDS_APART)
    return corner


def corner_told(line, walls):
    fields = split_at(line, BLANK)
    if len(fields) != 5 or fields[0] != bytes_of(CORNER_WORD):
        raise LineFault(NO_CORNER)
    corner = Corner(end_told(fields[1:3], walls), end_told(fields[3:5], walls))
    if corner.first[0] >= corner.second[0]:
        raise LineFault(NO_CORNER)
    return corner


def end_told(fields, walls):
    names = [wall.name for wall in walls]
    words = [bytes_of(word) for word in CORNER_ENDS]
    if fields[0] not in names or fields[1] not in words:
        raise LineFault(NO_CORNER)
    return (names.index(fields[0]), words.index(fields[1]))


def ends_taken(corners):
    taken = []
    for corner in corners:
        taken.extend([corner.first, corner.second])
    return taken


def go_together(corner, walls, taken):
    one = walls[corner.first[0]]
    other = walls[corner.second[0]]
    if one.height != other.height:
        return False
    if sorted([end_of(one, corner.first[1]), end_of(other, corner.second[1])]) != [SIDE, END]:
        return False
    return all([may_have_corner(end, walls, taken) for end in [corner.first, corner.second]])


def end_of(wall, side):
    return wall.left if side == LEFT else wall.right


def end_place(wall, side):
    return 0 if side == LEFT else wall.length - 1


# As far as the wall itself goes, whatever the other one is.
def may_have_corner(end, walls, taken):
    wall = walls[end[0]]
    place = end_place(wall, end[1])
    if any([wall.is_open(place, course) for course in range(wall.height)]):
        return False
    other_end = (end[0], 1 - end[1])
    return wall.length >= LEAST_BETWEEN_CORNERS or other_end not in taken


# Of each wall its part: walls of one part have the same number.
def parts_of(site):
    parts = list(range(len(site.walls)))
    for corner in site.corners:
        one = parts[corner.first[0]]
        other = parts[corner.second[0]]
        parts = [one if part == other else part for part in parts]
    return parts


def rings_in(site, parts):
    rings = 0
    for part in sorted(set(parts)):
        corners = [corner for corner in site.corners if parts[corner.first[0]] == part]
        if len(corners) == parts.count(part):
            rings += 1
    return rings
