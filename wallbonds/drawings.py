"""Drawings of walls filled."""

from wallbonds.rows import LENGTHS, LETTERS
from wallbonds.texts import lines_joined

DASH = 45
DOT = 46


def drawing_of(wall, courses):
    return lines_joined([line_of(course, wall.length) for course in reversed(courses)])


def line_of(course, length):
    line = [DOT] * length
    for place, piece in course:
        line[place] = ord(LETTERS[piece])
        for unit in range(place + 1, place + LENGTHS[piece]):
            line[unit] = DASH
    return line


def pieces_counted(courses):
    counts = [0] * len(LETTERS)
    for course in courses:
        for laid in course:
            counts[laid[1]] += 1
    return counts
