"""Drawings judged: whether one draws a wall whole, with whatever fillings of its panels."""

from wallbonds.bonds import keeps_course
from wallbonds.drawings import DASH, DOT
from wallbonds.fillings import ends_fit, floor_of
from wallbonds.refusals import DrawingFault, NOT_THE_LINES, NOT_THE_PIECES, NO_FILLING
from wallbonds.rows import LENGTHS, LETTERS, break_joint, cuts_in, joints_of
from wallbonds.texts import LINE_FEED, bytes_of
from wallbonds.walls import ends_of, panels_of


def cuts_drawn(bond, wall, drawing):
    lines = lines_drawn(wall, drawing)
    courses = [pieces_drawn(wall, course, line) for course, line in enumerate(lines)]
    for panel in panels_of(wall):
        judge_panel(bond, wall, panel, courses)
    return sum([cuts_in([laid[1] for laid in course]) for course in courses])


# The lines from below, without their line feeds.
def lines_drawn(wall, drawing):
    width = wall.length + 1
    for number in range(wall.height * width):
        place = number % width
        if number == len(drawing) or not may_stand(drawing[number], place, wall.length):
            raise DrawingFault(wall.height - 1 - number // width, place, NOT_THE_LINES)
    if len(drawing) > wall.height * width:
        raise DrawingFault(0, wall.length, NOT_THE_LINES)
    starts = [course * width for course in range(wall.height)]
    return [drawing[start:start + wall.length] for start in reversed(starts)]


def may_stand(sign, place, length):
    if place == length:
        return sign == LINE_FEED
    return sign in bytes_of(LETTERS) + [DASH, DOT]


def pieces_drawn(wall, course, line):
    laid = []
    end = 0
    for place, sign in enumerate(line):
        if not goes_on(sign, wall.is_open(place, course), place < end):
            raise DrawingFault(course, place, NOT_THE_PIECES)
        if sign not in (DASH, DOT):
            piece = bytes_of(LETTERS).index(sign)
            laid.append((place, piece))
            end = place + LENGTHS[piece]
    if end > wall.length:
        raise DrawingFault(course, wall.length, NOT_THE_PIECES)
    return laid


def goes_on(sign, is_open, within_piece):
    if is_open:
        return sign == DOT and not within_piece
    if within_piece:
        return sign == DASH
    return sign not in (DASH, DOT)


def judge_panel(bond, wall, panel, courses):
    ends = ends_of(wall, panel)
    below = floor_of(wall, panel, courses)
    for course in range(panel.course, panel.course + panel.courses):
        row = row_drawn(panel, courses[course])
        joints = joints_of(row)
        whole = ends_fit(row, course, ends) and keeps_course(bond, row, course)
        if not whole or not break_joint(joints, below, bond.lap):
            raise DrawingFault(course, panel.place, NO_FILLING)
        below = joints


def row_drawn(panel, course):
    return tuple([piece for place, piece in course if panel.place <= place < panel.place + panel.length])
