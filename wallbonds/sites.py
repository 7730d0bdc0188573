"""The calls. Each answers one list: a number; how many numbers, and these; how many bytes, and these."""

from wallbonds.bonds import read_bond
from wallbonds.bricks import bricks_counted, lay_bricks, number_at, numbers_below, spans
from wallbonds.checks import cuts_drawn
from wallbonds.corners import parts_of, read_site, rings_in
from wallbonds.drawings import drawing_of, pieces_counted
from wallbonds.fillings import fill_wall, fill_walls
from wallbonds.refusals import NotThere, Refusal, TextFault, TooLong
from wallbonds.walls import panel_at, panels_of, read_wall

MOST_BYTES = 4096


def wall(t):
    try:
        found = wall_of(t)
    except TextFault as fault:
        return refused_with_line(fault)
    except Refusal as refusal:
        return refused(refusal)
    return answer(len(found.openings), [], [])


def size(t):
    try:
        found = wall_of(t)
    except Refusal as refusal:
        return refused(refusal)
    ends = [found.left, found.right, found.reveal]
    parts = [len(found.openings), len(panels_of(found))]
    return answer(0, [found.length, found.height] + ends + parts, [])


def panels(t):
    try:
        found = wall_of(t)
    except Refusal as refusal:
        return refused(refusal)
    row = []
    for panel in panels_of(found):
        row.extend([panel.place, panel.course, panel.length, panel.courses])
    return answer(0, row, [])


def where(x, y, t):
    try:
        number = panel_at(wall_of(t), x, y)
    except Refusal as refusal:
        return refused(refusal)
    return answer(number, [], [])


def fill(b, t):
    try:
        refuse_long([b, t])
        bond = read_bond(b)
        found = read_wall(t)
        courses = fill_wall(bond, found)
    except Refusal as refusal:
        return refused(refusal)
    return answer(0, [], drawing_of(found, courses))


def counts(b, t):
    try:
        refuse_long([b, t])
        courses = fill_wall(read_bond(b), read_wall(t))
    except Refusal as refusal:
        return refused(refusal)
    return answer(0, pieces_counted(courses), [])


def check(b, t, d):
    try:
        refuse_long([b, t, d])
        cuts = cuts_drawn(read_bond(b), read_wall(t), d)
    except Refusal as refusal:
        return refused(refusal)
    return answer(cuts, [], [])


def site(u):
    try:
        found = site_of(u)
    except TextFault as fault:
        return refused_with_line(fault)
    except Refusal as refusal:
        return refused(refusal)
    return answer(len(found.walls), [], [])


def sizes(u):
    try:
        found = site_of(u)
    except Refusal as refusal:
        return refused(refusal)
    parts = parts_of(found)
    row = [len(found.walls), len(found.corners), len(set(parts)), rings_in(found, parts)]
    return answer(0, row, [])


def text(i, u):
    try:
        found = one_of(site_of(u).texts, i)
    except Refusal as refusal:
        return refused(refusal)
    return answer(0, [], found)


def corner(i, u):
    try:
        found = one_of(site_of(u).corners, i)
    except Refusal as refusal:
        return refused(refusal)
    return answer(0, list(found.first) + list(found.second), [])


def fills(b, u):
    try:
        refuse_long([b, u])
        bond = read_bond(b)
        walls = read_site(u).walls
        filled = fill_walls(bond, walls)
    except Refusal as refusal:
        return refused(refusal)
    drawings = []
    for found, courses in zip(walls, filled):
        drawings.extend(drawing_of(found, courses))
    return answer(0, [], drawings)


def bricks(b, u):
    try:
        found = masonry_of(b, u)
    except Refusal as refusal:
        return refused(refusal)
    return answer(len(found.bricks), bricks_counted(found), [])


def brick(i, b, u):
    try:
        masonry = masonry_of(b, u)
        found = one_of(masonry.bricks, i)
    except Refusal as refusal:
        return refused(refusal)
    face = found.faces[0]
    other = found.other_face()
    spanning = 1 if spans(masonry, found) else 0
    return answer(0, [found.piece, found.course, face[0], face[1], other[0], other[1], spanning], [])


def which(wall, x, y, b, u):
    try:
        number = number_at(masonry_of(b, u), (wall, y, x))
    except Refusal as refusal:
        return refused(refusal)
    return answer(number, [], [])


def on(i, b, u):
    try:
        masonry = masonry_of(b, u)
        found = one_of(masonry.bricks, i)
    except Refusal as refusal:
        return refused(refusal)
    return answer(0, numbers_below(masonry, found), [])


def wall_of(t):
    refuse_long([t])
    return read_wall(t)


def site_of(u):
    refuse_long([u])
    return read_site(u)


def masonry_of(b, u):
    refuse_long([b, u])
    bond = read_bond(b)
    found = read_site(u)
    return lay_bricks(found, fill_walls(bond, found.walls))


def one_of(things, number):
    if number >= len(things):
        raise NotThere()
    return things[number]


# A text too long is refused for its length alone, whatever else is wrong with any: so it comes before all reading.
def refuse_long(rows):
    for row in rows:
        if len(row) > MOST_BYTES:
            raise TooLong()


def refused(refusal):
    return answer(refusal.number, refusal.told, [])


def refused_with_line(fault):
    return answer(fault.number, [fault.line, fault.kind], [])


def answer(number, row, signs):
    return [number, len(row)] + row + [len(signs)] + signs
