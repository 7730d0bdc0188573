"""The filling told: of a panel, of a wall panel by panel, and of walls one after another.

A course of a wall filled is a list of what lies in it from left to right: pairs of first place and piece.
"""

from wallbonds.bonds import rows_keeping
from wallbonds.refusals import CannotFillPanel, CannotFillWall
from wallbonds.rows import LENGTHS, break_joint, cuts_in, joints_of, places_in, places_near
from wallbonds.walls import FREE, ends_of, panels_of


# A row, and upon it the first of all piles that it can bear: so cuts and pieces are those of both.
class Pile:

    def __init__(self, row, joints, above):
        self.row = row
        self.joints = joints
        self.above = above
        self.cuts = cuts_in(row)
        self.pieces = len(row)
        if above is not None:
            self.cuts += above.cuts
            self.pieces += above.pieces


def fill_walls(bond, walls):
    filled = []
    for number, wall in enumerate(walls):
        try:
            filled.append(fill_wall(bond, wall))
        except CannotFillPanel as refusal:
            raise CannotFillWall(number, refusal.panel) from refusal
    return filled


def fill_wall(bond, wall):
    courses = [[] for course in range(wall.height)]
    for number, panel in enumerate(panels_of(wall)):
        rows = filling_told(bond, panel, ends_of(wall, panel), floor_of(wall, panel, courses))
        if rows == []:
            raise CannotFillPanel(number)
        for step, row in enumerate(rows):
            courses[panel.course + step].extend(row_laid(row, panel.place))
    # Panels side by side may begin in other courses, so their pieces may have come from right to left.
    return [sorted(course) for course in courses]


def row_laid(row, first):
    laid = []
    place = first
    for piece in row:
        laid.append((place, piece))
        place += LENGTHS[piece]
    return laid


def floor_of(wall, panel, courses):
    floor = 0
    if panel.course == 0:
        return floor
    for place, piece in courses[panel.course - 1]:
        within = panel.place <= place <= panel.place + panel.length
        if within and not begins_stretch(wall, place, panel.course - 1):
            floor = floor | (1 << (place - panel.place))
    return floor


def begins_stretch(wall, place, course):
    return place == 0 or wall.is_open(place - 1, course)


# The rows from below, or none if there is no filling. From above: what a row can bear doesn't hang on what is below it.
def filling_told(bond, panel, ends, floor):
    top = panel.course + panel.courses - 1
    rows = rows_for(bond, top, panel.length, ends)
    piles = [Pile(rows[joints], joints, None) for joints in rows]
    for course in range(top - 1, panel.course - 1, -1):
        piles = piles_under(piles, rows_for(bond, course, panel.length, ends), bond.lap)
    piles = [pile for pile in piles if break_joint(pile.joints, floor, bond.lap)]
    return rows_of(min(piles, key=order_of, default=None))


def order_of(pile):
    return (pile.cuts, pile.pieces, pile.row)


def rows_of(pile):
    rows = []
    while pile is not None:
        rows.append(pile.row)
        pile = pile.above
    return rows


# By their joints: of rows with the same joints, which bear the same, only the first by the order can be in the filling.
def rows_for(bond, course, length, ends):
    rows = {}
    for row in rows_keeping(bond, course, length):
        if ends_fit(row, course, ends):
            joints = joints_of(row)
            if joints not in rows or (cuts_in(row), row) < (cuts_in(rows[joints]), rows[joints]):
                rows[joints] = row
    return rows


def ends_fit(row, course, ends):
    return end_fits(row[0], course, ends[0]) and end_fits(row[-1], course, ends[1])


# Piece 0 is S and 1 is H: an end of 1 asks for S in even courses, one of 2 in odd ones.
def end_fits(piece, course, end):
    return end == FREE or piece == (course + end - 1) % 2


# Sets of piles are kept as bits, the first pile's lowest: so the lowest bit of those borne is the first of them.
def piles_under(piles, rows, lap):
    ordered = sorted(piles, key=order_of)
    with_joint = piles_by_joint(ordered)
    found = []
    for joints in rows:
        borne = (1 << len(ordered)) - 1
        for place in places_in(places_near(joints, lap)):
            borne = borne & ~with_joint.get(place, 0)
        if borne != 0:
            found.append(Pile(rows[joints], joints, ordered[lowest_bit(borne)]))
    return found


def piles_by_joint(ordered):
    with_joint = {}
    for number, pile in enumerate(ordered):
        for place in places_in(pile.joints):
            with_joint[place] = with_joint.get(place, 0) | (1 << number)
    return with_joint


def lowest_bit(bits):
    return (bits & -bits).bit_length() - 1
