"""The calls. Each answers one list: a number; how many numbers, and these; how many bytes, and these."""

from wallbonds.refusals import Refusal, TooLong, WallFault
from wallbonds.walls import panels_of, read_wall

MOST_BYTES = 4096


def wall(t):
    try:
        found = wall_of(t)
    except WallFault as fault:
        return answer(fault.number, [fault.line, fault.kind], [])
    except TooLong as refusal:
        return answer(refusal.number, [], [])
    return answer(len(found.openings), [], [])


def size(t):
    try:
        found = wall_of(t)
    except Refusal as refusal:
        return answer(refusal.number, [], [])
    ends = [found.left, found.right, found.reveal]
    parts = [len(found.openings), len(panels_of(found))]
    return answer(0, [found.length, found.height] + ends + parts, [])


def panels(t):
    try:
        found = wall_of(t)
    except Refusal as refusal:
        return answer(refusal.number, [], [])
    row = []
    for panel in panels_of(found):
        row.extend(list(panel))
    return answer(0, row, [])


# A text too long is refused for its length alone, whatever else is wrong with it: so it isn't read.
def wall_of(t):
    if len(t) > MOST_BYTES:
        raise TooLong()
    return read_wall(t)


def answer(number, row, signs):
    return [number, len(row)] + row + [len(signs)] + signs
