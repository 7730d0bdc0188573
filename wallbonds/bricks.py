"""Bricks of a site filled: their numbers, where they show, what they span and what they lie on.

A unit of a site is a wall's number, a course and a place.
"""

from wallbonds.corners import end_place
from wallbonds.refusals import NotThere
from wallbonds.rows import BRICK_SIDE, LENGTHS, LETTERS


# Its faces are where it shows, first the one at which it's numbered: wall's number, first place, length.
class Brick:

    def __init__(self, piece, course):
        self.piece = piece
        self.course = course
        self.faces = []

    def other_face(self):
        return self.faces[1] if len(self.faces) == 2 else (0, 0, 0)


# Each unit that isn't open has its brick's number.
class Masonry:

    def __init__(self):
        self.bricks = []
        self.numbers = {}

    def add_brick(self, piece, course):
        self.bricks.append(Brick(piece, course))
        return len(self.bricks) - 1

    def add_face(self, number, face):
        brick = self.bricks[number]
        brick.faces.append(face)
        for unit in units_of_face(face, brick.course):
            self.numbers[unit] = number


def lay_bricks(site, filled):
    masonry = Masonry()
    joined = places_joined(site)
    for course in range(max([wall.height for wall in site.walls])):
        for wall, courses in enumerate(filled):
            if course < len(courses):
                lay_course(masonry, joined, wall, course, courses[course])
    return masonry


# Of each wall's end place that's at a corner the other wall and its end place.
def places_joined(site):
    joined = {}
    for corner in site.corners:
        first = (corner.first[0], end_place(site.walls[corner.first[0]], corner.first[1]))
        second = (corner.second[0], end_place(site.walls[corner.second[0]], corner.second[1]))
        joined[first] = second
        joined[second] = first
    return joined


def lay_course(masonry, joined, wall, course, laid):
    for place, piece in laid:
        length = LENGTHS[piece]
        ends = [(wall, unit) for unit in range(place, place + length) if (wall, unit) in joined]
        if ends == []:
            number = masonry.add_brick(piece, course)
        else:
            number = corner_brick(masonry, course, joined[ends[0]])
        masonry.add_face(number, (wall, place, length))


# Whichever of the two walls comes first, its piece makes the brick: the other's only shows it.
def corner_brick(masonry, course, other):
    unit = (other[0], course, other[1])
    if unit in masonry.numbers:
        return masonry.numbers[unit]
    return masonry.add_brick(BRICK_SIDE, course)


def number_at(masonry, unit):
    if unit not in masonry.numbers:
        raise NotThere()
    return masonry.numbers[unit]


def units_of_face(face, course):
    return [(face[0], course, place) for place in range(face[1], face[1] + face[2])]


def units_below(brick):
    units = []
    if brick.course > 0:
        for face in brick.faces:
            units.extend(units_of_face(face, brick.course - 1))
    return units


def spans(masonry, brick):
    return any([unit not in masonry.numbers for unit in units_below(brick)])


def numbers_below(masonry, brick):
    return sorted(set([masonry.numbers[unit] for unit in units_below(brick) if unit in masonry.numbers]))


def bricks_counted(masonry):
    counts = [0] * len(LETTERS)
    for brick in masonry.bricks:
        counts[brick.piece] += 1
    return counts
