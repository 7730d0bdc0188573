"""Drawings of walls filled."""

from wallbonds.rows import LENGTHS, LETTERS
from wallbonds.texts import LINE_FEED

DASH = 45
DOT = 46


def drawing_of(wall, courses):
    drawing = []
    for course in reversed(courses):
        drawing.extend(line_of(course, wall.length))
        drawing.append(LINE_FEED)
    return drawing


def line_of(course, length):
    line = [DOT] * length
    for place, piece in course:
        line[place] = ord(LETTERS[piece])
        for unit in range(place + 1, place + LENGTHS[piece]):
            line[unit] = DASH
    return line


def pieces_counted(courses):
    counts = [0] * len(LETTERS)
    for course in courses:
        for laid in course:
            counts[laid[1]] += 1
    return counts
