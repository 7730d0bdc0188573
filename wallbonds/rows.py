"""Pieces, and rows of them: tuples from left to right.

A piece is its number in the order of pieces, so rows compare as that order has it.
Places are kept as the bits of one number: bit x stands for place x.
"""

LETTERS = "SHTBC"
LENGTHS = (4, 2, 3, 2, 1)
BRICK_SIDE = 0
BRICK_END = 1
FIRST_CUT = 2


def length_of(row):
    return sum([LENGTHS[piece] for piece in row])


def cuts_in(row):
    return len([piece for piece in row if piece >= FIRST_CUT])


def joints_of(row):
    joints = 0
    place = 0
    for piece in row[:-1]:
        place += LENGTHS[piece]
        joints = joints | (1 << place)
    return joints


def places_near(places, lap):
    near = places
    for step in range(1, lap):
        near = near | (places << step) | (places >> step)
    return near


def break_joint(joints, others, lap):
    return (joints & places_near(others, lap)) == 0


def places_in(places):
    return [place for place in range(places.bit_length()) if (places >> place) & 1 == 1]
