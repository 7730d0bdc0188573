"""What the tests share: texts of walls and bonds, and a second telling of them, not written like the program."""

import collections
import functools
import itertools
import random
import re

MOST = 2 ** 63 - 1

ENDS = ("free", "side", "end")
HEAD = ("wall a", "long 12", "high 4", "left side", "right end", "reveal free")
HEAD_FORMS = (
    r"wall ([a-z]+)",
    r"long (0|[1-9][0-9]{0,4})",
    r"high (0|[1-9][0-9]{0,4})",
    r"left (free|side|end)",
    r"right (free|side|end)",
    r"reveal (free|side|end)",
)
OPENING_FORM = "open" + r" (0|[1-9][0-9]{0,4})" * 4


def as_bytes(text):
    return list(text.encode("latin-1"))


def text_of(lines):
    return as_bytes("".join(line + "\n" for line in lines))


def head_with(number, line):
    return HEAD[:number] + (line,) + HEAD[number + 1:]


def no_walls():
    """Texts of at most 4,096 bytes that are no wall's, of each kind of fault."""
    return [
        [],
        [10] * 4096,
        text_of(HEAD[:5]),
        text_of(HEAD)[:-1],
        text_of(head_with(0, "wall " + "a" * 16)),
        text_of(head_with(1, "long 33")),
        text_of(head_with(2, "high 9")),
        text_of(head_with(3, "left none")),
        text_of(HEAD + ("open 4 0 9 1",)),
        text_of(HEAD + ("open 4 0 1 1", "open 2 0 1 1")),
        text_of(HEAD + ("open 4 0 2 1", "open 5 0 1 1")),
        text_of(HEAD + tuple(f"open {x} 0 1 1" for x in range(9))),
    ]


def too_long_texts():
    start = text_of(HEAD)
    return [start + [10] * (length - len(start)) for length in (4097, 5000, 6000)] + [[0] * 4097, [0] * 6000]


def wall_text(length, height, openings, ends=(0, 0, 0), name="a"):
    lines = ["wall " + name, f"long {length}", f"high {height}"]
    lines += [f"{word} {ENDS[end]}" for word, end in zip(("left", "right", "reveal"), ends)]
    lines += ["open %d %d %d %d" % opening for opening in openings]
    return text_of(lines)


def places(opening):
    x, y, w, h = opening
    return {(place, course) for place in range(x, x + w) for course in range(y, y + h)}


def opening_kind(numbers, length, height, before):
    x, y, w, h = numbers
    if w < 1 or h < 1 or x + w > length or y + h > height:
        return 2
    if before and (y, x) <= (before[-1][1], before[-1][0]):
        return 3
    if any(places(numbers) & places(other) for other in before):
        return 4
    return 5 if len(before) >= 8 else 0


def head_kind(number, value):
    if number == 0:
        return 2 if len(value) > 15 else 0
    if number in (1, 2):
        return 0 if 1 <= int(value) <= (32, 8)[number - 1] else 2
    return 0


def first_fault(text):
    """(line, kind) of a text's first fault, or None if it is a wall's."""
    *lines, rest = bytes(text).decode("latin-1").split("\n")
    head, openings = [], []
    for number, line in enumerate(lines):
        match = re.fullmatch(HEAD_FORMS[number] if number < 6 else OPENING_FORM, line)
        if not match:
            return number, 1
        if number < 6:
            kind = head_kind(number, match[1])
            head.append(match[1])
        else:
            numbers = tuple(map(int, match.groups()))
            kind = opening_kind(numbers, int(head[1]), int(head[2]), openings)
            openings.append(numbers)
        if kind:
            return number, kind
    if rest or len(lines) < 6:
        return len(lines), 1
    return None


def some_walls(how_many):
    """(length, height, openings) of walls of all sizes, the same ones every time."""
    source = random.Random(20)
    for _ in range(how_many):
        length, height = source.randint(1, 32), source.randint(1, 8)
        openings, taken = [], set()
        for _ in range(source.randint(0, 14)):
            x, y = source.randrange(length), source.randrange(height)
            opening = (x, y, source.randint(1, min(9, length - x)), source.randint(1, height - y))
            if len(openings) < 8 and not places(opening) & taken:
                openings.append(opening)
                taken |= places(opening)
        yield length, height, sorted(openings, key=lambda o: (o[1], o[0]))


PIECES = {"S": 4, "H": 2, "T": 3, "B": 2, "C": 1}
Bond = collections.namedtuple("Bond", "lap most makes courses")
Wall = collections.namedtuple("Wall", "length height openings ends")


def bond_text(bond, name="b"):
    lines = ["bond " + name, f"lap {bond.lap}", f"most {bond.most}"]
    lines += ["makes " + bond.makes] if bond.most else []
    return text_of(lines + ["course " + pattern for pattern in bond.courses])


def no_bonds():
    """(text, line, kind) of texts of at most 4,096 bytes that are no bond's."""
    head = ("bond b", "lap 1", "most 1", "makes S", "course S")
    told = [((), 0, 1), (head[:4], 4, 1), (head[:3], 3, 1), (head[:3] + head[4:], 3, 1), (head + ("makes S",), 5, 1)]
    told += [(("bond b", "lap 1", "most 0") + head[3:], 3, 1), (head[1:], 0, 1), (head[:1] + head, 1, 1)]
    changes = {
        0: [("bond", 1), ("bond ", 1), ("bond B", 1), ("bond b1", 1), ("bond b ", 1), ("bond  b", 1), ("Bond b", 1),
            ("bond a b", 1), ("wall b", 1), ("bond " + "b" * 16, 2), ("", 1), ("bond `", 1), ("bond {", 1)],
        1: [("lap", 1), ("lap ", 1), ("lap 01", 1), ("lap 12", 1), ("lap x", 1), ("lap -1", 1), ("lap 1 ", 1),
            ("lap 0", 2), ("lap 4", 2), ("lap 9", 2), ("lap :", 1), ("lap /", 1)],
        2: [("most", 1), ("most 00", 1), ("most 10", 1), ("most B", 1), ("most 3", 2), ("most 9", 2)],
        3: [("makes", 1), ("makes ", 1), ("makes s", 1), ("makes S H", 1), ("makes 1", 1), ("makes @", 1),
            ("makes [", 1), ("makes A", 3), ("makes HS", 3), ("makes SS", 3), ("makes SHTBCC", 3), ("makes SHTBCZ", 3),
            ("makes SHBT", 3), ("makes S" * 2, 1)],
        4: [("course", 1), ("course ", 1), ("course s", 1), ("course S ", 1), ("course S S", 1), ("Course S", 1),
            ("course SSSSSSSSS", 2), ("course TTTTTTTTT", 2), ("course T", 3), ("course SB", 3), ("course HC", 3),
            ("course SZ", 3), ("course SSSSSSSs", 1), ("course SSSSSSSSs", 1)],
    }
    for line, changed in changes.items():
        told += [(head[:line] + (text,) + head[line + 1:], line, kind) for text, kind in changed]
    told += [(head + ("course H",) * 8, 12, 4), (head + ("course H",) * 7 + ("course X",), 12, 3)]
    told += [(head + ("course H",) * 7 + ("course " + "H" * 9,), 12, 2), (head + ("course H",) * 7 + ("x",), 12, 1)]
    told = [(text_of(lines), line, kind) for lines, line, kind in told]
    told += [(text_of(head)[:-1], 4, 1), (text_of(head) + [83], 5, 1), ([10] * 4096, 0, 1), ([0] * 4096, 0, 1)]
    told += [(as_bytes("bond " + "b" * 4090 + "\n"), 0, 2), (text_of(head) + as_bytes("course H"), 5, 1)]
    return told


def some_bonds(how_many, seed=3):
    source = random.Random(seed)
    for _ in range(how_many):
        most = source.choice((0, 1, 1, 2, 2))
        makes = "".join(letter for letter in PIECES if source.random() < 0.6) or "B"
        sizes = [source.choice((1, 1, 2, 3, 8)) for _ in range(source.randint(1, 4))]
        patterns = ["".join(source.choices("SH", k=size)) for size in sizes]
        yield Bond(source.choice((1, 1, 2, 2, 3)), most, makes if most else "", tuple(patterns))


def length_of(row):
    return sum(PIECES[letter] for letter in row)


def cuts_of(row):
    return sum(letter in "TBC" for letter in row)


def rank(row):
    return ["SHTBC".index(letter) for letter in row]


def joints_of(row):
    return [length_of(row[:k]) for k in range(1, len(row))]


def keeps(row, bond, course):
    pattern = bond.courses[course % len(bond.courses)]
    endless = pattern * 40
    for left, right in itertools.product(range(bond.most + 1), repeat=2):
        made_up, middle = row[:left] + row[max(left, len(row) - right):], row[left:max(left, len(row) - right)]
        if set(made_up) <= set(bond.makes) and middle in endless:
            return True
    return False


def end_fits(letter, end, course):
    return letter == ("SH", "HS")[end - 1][course % 2] if end else True


def too_near(joints, others, lap):
    return any(abs(one - other) < lap for one in joints for other in others)


@functools.cache
def all_rows(length):
    if length == 0:
        return ("",)
    return tuple(letter + rest for letter, size in PIECES.items() if size <= length for rest in all_rows(length - size))


@functools.cache
def rows_keeping(bond, course, length):
    if length <= 10:
        return [row for row in all_rows(length) if keeps(row, bond, course)]
    made_up = ["".join(row) for count in range(bond.most + 1) for row in itertools.product(bond.makes, repeat=count)]
    pattern = bond.courses[course % len(bond.courses)]
    endless = pattern * 40
    middles = {endless[k:k + count] for k in range(len(pattern)) for count in range(17)}
    begun = {left + middle for left in made_up for middle in middles if length_of(left + middle) <= length}
    return sorted({row + right for row in begun for right in made_up if length_of(row + right) == length})


def rows_of_course(bond, course, length, ends):
    rows = rows_keeping(bond, course, length)
    return [row for row in rows if end_fits(row[0], ends[0], course) and end_fits(row[-1], ends[1], course)]


def filling_order(rows):
    return sum(map(cuts_of, rows)), sum(map(len, rows)), [rank(row) for row in rows]


@functools.cache
def near_joints(row, lap):
    return frozenset(joint + step for joint in joints_of(row) for step in range(1 - lap, lap))


def first_filling(bond, panel, ends, floor):
    """The filling told, from below, or None: of all that end in the same row only the first is carried on."""
    place, first, length, courses = panel
    ending = {}
    for row in rows_of_course(bond, first, length, ends):
        if not too_near(joints_of(row), floor, bond.lap):
            ending[row] = (cuts_of(row), len(row), (rank(row),), (row,))
    for course in range(first + 1, first + courses):
        in_order = sorted(ending.items(), key=lambda pair: pair[1])
        ending = {}
        for row in rows_of_course(bond, course, length, ends):
            near = near_joints(row, bond.lap)
            below = next((order for lower, order in in_order if near.isdisjoint(near_joints(lower, 1))), None)
            if below:
                cuts, pieces, ranks, rows = below
                ending[row] = (cuts + cuts_of(row), pieces + len(row), ranks + (rank(row),), rows + (row,))
    return min(ending.values())[3] if ending else None


def closed_places(wall):
    return places((0, 0, wall.length, wall.height)).difference(*map(places, wall.openings))


def panels_again(wall):
    closed = closed_places(wall)
    stretches = []
    for y in range(wall.height):
        signs = "".join("#" if (x, y) in closed else " " for x in range(wall.length))
        stretches.append([(match.start(), len(match[0])) for match in re.finditer("#+", signs)])
    found = []
    for y, row in enumerate(stretches):
        for stretch in row:
            if y == 0 or stretch not in stretches[y - 1]:
                courses = len(list(itertools.takewhile(lambda other: stretch in other, stretches[y:])))
                found.append((stretch[0], y, stretch[1], courses))
    return found


def panel_ends(wall, panel):
    left, right, reveal = wall.ends
    return left if panel[0] == 0 else reveal, right if panel[0] + panel[2] == wall.length else reveal


def drawn_floor(grid, panel):
    """Joints of the course below, in units from the panel's left side: a piece's letter not behind an open place."""
    x, y, length, courses = panel
    if y == 0:
        return []
    below = grid[y - 1]
    return [k - x for k in range(x, min(x + length, len(below) - 1) + 1)
            if below[k] in PIECES and k > 0 and below[k - 1] != "."]


def draw_row(row):
    return "".join(letter + "-" * (PIECES[letter] - 1) for letter in row)


def draw_again(bond, wall):
    """The drawing of the wall filled, or the number of the first panel that can't be filled."""
    grid = ["." * wall.length] * wall.height
    for number, panel in enumerate(panels_again(wall)):
        x, y, length, courses = panel
        rows = first_filling(bond, panel, panel_ends(wall, panel), drawn_floor(grid, panel))
        if rows is None:
            return number
        for k, row in enumerate(rows):
            grid[y + k] = grid[y + k][:x] + draw_row(row) + grid[y + k][x + length:]
    return "".join(line + "\n" for line in reversed(grid))


def fill_answer(drawing):
    return [0, 0, len(drawing)] + as_bytes(drawing)


def text_of_wall(wall, name="a"):
    return wall_text(wall.length, wall.height, wall.openings, wall.ends, name)


def some_filled(how_many, length, height, seed=7):
    """(bond, wall) with walls of at most this length and height, the same ones every time."""
    source = random.Random(seed)
    for bond in some_bonds(how_many, seed):
        long, high = source.randint(1, length), source.randint(1, height)
        openings, taken = [], set()
        for _ in range(source.choice((0, 0, 1, 2, 4))):
            x, y = source.randrange(long), source.randrange(high)
            opening = (x, y, source.randint(1, min(4, long - x)), source.randint(1, high - y))
            if not places(opening) & taken:
                openings.append(opening)
                taken |= places(opening)
        ends = tuple(source.choice((0, 0, 1, 2)) for _ in range(3))
        yield bond, Wall(long, high, sorted(openings, key=lambda o: (o[1], o[0])), ends)


def judge_again(bond, wall, drawing):
    """How many cut pieces a whole drawing has, or (course, place, kind) of what is wrong with one that isn't."""
    lines_fault = first_wrong_sign(wall, drawing)
    if lines_fault:
        return lines_fault + (1,)
    grid = drawing.split("\n")[-2::-1]
    for course, line in enumerate(grid):
        place = first_wrong_place(wall, course, line)
        if place is not None:
            return course, place, 2
    for panel in panels_again(wall):
        x, y, length, courses = panel
        below = drawn_floor(grid, panel)
        for course in range(y, y + courses):
            row = re.sub(r"[^SHTBC]", "", grid[course][x:x + length])
            left, right = panel_ends(wall, panel)
            right_ends = end_fits(row[0], left, course) and end_fits(row[-1], right, course)
            if not right_ends or not keeps(row, bond, course) or too_near(joints_of(row), below, bond.lap):
                return course, x, 3
            below = joints_of(row)
    return cuts_of(drawing)


def first_wrong_sign(wall, drawing):
    course, place = wall.height - 1, 0
    for sign in drawing + "\0":
        if course < 0:
            return None if sign == "\0" else (0, wall.length)
        if place == wall.length:
            if sign != "\n":
                return course, place
            course, place = course - 1, 0
        elif sign not in "SHTBC-.":
            return course, place
        else:
            place += 1
    return None


def first_wrong_place(wall, course, line):
    closed = closed_places(wall)
    x = 0
    while x < wall.length:
        size = 1
        if (x, course) not in closed:
            if line[x] != ".":
                return x
        elif line[x] not in PIECES:
            return x
        else:
            size = PIECES[line[x]]
            for k in range(x + 1, x + size):
                if (k, course) not in closed or line[k] != "-":
                    return k
        x += size
    return None


def site_text(walls, corners, names="abcd"):
    """walls: some Wall; corners: (first, left or right as 0 or 1, second, the same), by the walls' numbers."""
    text = [byte for wall, name in zip(walls, names) for byte in text_of_wall(wall, name)]
    sides = ("left", "right")
    return text + text_of(f"corner {names[one]} {sides[end]} {names[two]} {sides[other]}"
                          for one, end, two, other in corners)


def site_again(text):
    """(line, kind) of the first fault of a site's text, or (its walls' texts, its corners)."""
    lines = bytes(text).decode("latin-1").split("\n")
    lines = [line + "\n" for line in lines[:-1]] + lines[-1:] * bool(lines[-1])
    end = next((number for number, line in enumerate(lines) if line.startswith("corner ")), len(lines))
    firsts = [number for number in range(end) if number == 0 or lines[number].startswith("wall ")]
    if not firsts:
        return 0, 1
    names, texts = [], []
    for first, last in zip(firsts, firsts[1:] + [end]):
        texts.append("".join(lines[first:last]))
        fault = first_fault(as_bytes(texts[-1]))
        if fault is None or fault[0] > 0:
            names.append(lines[first][5:-1])
            if names[-1] in names[:-1]:
                return first, 6
            if len(names) == 5:
                return first, 7
        if fault:
            return first + fault[0], fault[1]
    corners = []
    for number in range(end, len(lines)):
        kind = corner_kind(lines[number], names, texts, corners)
        if kind:
            return number, kind
    return texts, corners


def corner_kind(line, names, texts, corners):
    match = re.fullmatch(r"corner ([a-z]+) (left|right) ([a-z]+) (left|right)\n", line)
    if not match or match[1] not in names or match[3] not in names or names.index(match[1]) >= names.index(match[3]):
        return 8
    one, two = names.index(match[1]), names.index(match[3])
    ends = [(one, match[2]), (two, match[4])]
    if corners and ends[0] <= corners[-1][0]:
        return 9
    taken = [end for corner in corners for end in corner]
    if set(ends) & set(taken):
        return 10
    corners.append(ends)
    words = [re.search(rf"\n{side} (\w+)\n", texts[number])[1] for number, side in ends]
    highs = [re.search(r"\nhigh (\d+)\n", texts[number])[1] for number, side in ends]
    if len(set(highs)) > 1 or sorted(words) != ["end", "side"]:
        return 11
    for number, side in ends:
        length = int(re.search(r"\nlong (\d+)\n", texts[number])[1])
        place = 0 if side == "left" else length - 1
        openings = re.findall(r"\nopen (\d+) \d+ (\d+) \d+(?=\n)", texts[number])
        if any(int(x) <= place < int(x) + int(w) for x, w in openings):
            return 11
        if length < 5 and {(number, "left"), (number, "right")} <= {end for corner in corners for end in corner}:
            return 11
    return 0


def some_sites(how_many, length=14, height=4, seed=31):
    """(walls, corners): sites of all sizes, the same ones every time."""
    source = random.Random(seed)
    for _ in range(how_many):
        count = source.randint(1, 4)
        high = source.randint(1, height)
        corners, loose = [], [(wall, end) for wall in range(count) for end in (0, 1)]
        source.shuffle(loose)
        ends = {end: source.randrange(3) for end in loose}
        while len(loose) > 1 and source.random() < 0.85:
            one = loose.pop()
            other = next((end for end in loose if end[0] != one[0]), None)
            if other:
                loose.remove(other)
                corners.append(min(one, other) + max(one, other))
                ends[one] = source.choice((1, 2))
                ends[other] = 3 - ends[one]
        walls = [a_wall_of_a_site(source, number, high, length, ends, corners) for number in range(count)]
        yield walls, sorted(corners)


def a_wall_of_a_site(source, number, high, length, ends, corners):
    cornered = [end for corner in corners for wall, end in (corner[:2], corner[2:]) if wall == number]
    if not cornered:
        high = source.randint(1, high)
    long = source.randint(5 if len(cornered) == 2 else 4, length)
    first, last = (1 if 0 in cornered else 0), (long - 1 if 1 in cornered else long)
    openings, taken = [], set()
    for _ in range(source.choice((0, 0, 1, 2))):
        if first < last:
            x, y = source.randrange(first, last), source.randrange(high)
            opening = (x, y, source.randint(1, min(4, last - x)), source.randint(1, high - y))
            if not places(opening) & taken:
                openings.append(opening)
                taken |= places(opening)
    words = ends[number, 0], ends[number, 1], source.choice((0, 0, 1, 2))
    return Wall(long, high, sorted(openings, key=lambda o: (o[1], o[0])), words)


def bricks_again(bond, walls, corners):
    """Bricks in the order of their numbers, as (letter, course, faces), faces being sets of (wall, x, y) in a list."""
    grids = [draw_again(bond, wall).split("\n")[-2::-1] for wall in walls]
    pieces = [(course, number, match.start(), match[0]) for number, grid in enumerate(grids)
              for course, line in enumerate(grid) for match in re.finditer("[SHTBC]-*", line)]
    bricks = []
    for course, number, place, drawn in sorted(pieces):
        face = {(number, x, course) for x in range(place, place + len(drawn))}
        corner = next((corner for corner in corners if corner_units(walls, corner, course) & face), None)
        if corner is None:
            bricks.append((drawn[0], course, [face]))
        elif number == corner[0]:
            bricks.append(("S", course, [face]))
        else:
            units = corner_units(walls, corner, course)
            next(brick for brick in bricks if brick[2][0] & units)[2].append(face)
    return bricks


def corner_units(walls, corner, course):
    return {(wall, 0 if end == 0 else walls[wall].length - 1, course) for wall, end in (corner[:2], corner[2:])}


def units_below(brick):
    letter, course, faces = brick
    return {(wall, x, y - 1) for face in faces for wall, x, y in face if y > 0}


@functools.cache
def some_filled_sites(how_many, seed=91):
    """(bond, walls, corners) of sites that can be filled: of four three with corners, one of these with openings."""
    bonds = [Bond(1, 2, "SHTBC", ("SH", "HS")), Bond(1, 2, "SHTC", ("S", "H")), Bond(1, 2, "HTBC", ("SSH",))] * 20
    bonds += [bond for bond in some_bonds(100, seed) if bond.lap == 1 and bond.most > 0]
    random.Random(seed).shuffle(bonds)
    found = []
    for bond, (walls, corners) in zip(itertools.cycle(bonds), some_sites(how_many * 100, seed=seed)):
        cornered = corners and walls[corners[0][0]].height > 1
        wanted = (True, cornered, cornered, cornered and any(wall.openings for wall in walls))[len(found) % 4]
        if wanted and not any(isinstance(draw_again(bond, wall), int) for wall in walls):
            found.append((bond, walls, corners))
        if len(found) == how_many:
            return found
    raise AssertionError("too few sites can be filled")


# Two walls with a corner; the same with an opening below the corner's brick in the second wall alone; two in a ring.
BOND = Bond(1, 2, "SHTBC", ("SH",))
JOINED = [Wall(10, 2, [], (1, 2, 0)), Wall(6, 2, [], (0, 2, 0))], [(0, 0, 1, 1)]
OPENED = [Wall(10, 2, [], (1, 0, 0)), Wall(8, 2, [(4, 0, 2, 1)], (0, 2, 0))], [(0, 0, 1, 1)]
RING = [Wall(6, 2, [], (1, 2, 0))] * 2, [(0, 0, 1, 1), (0, 1, 1, 0)]


def not_filled_sites():
    """(bond's text, site's text, wall, panel) of sites that can't be filled: the first such wall and panel."""
    plain = bond_text(Bond(1, 0, "", ("SH",)))
    one, other = Wall(3, 1, [], (0, 0, 0)), Wall(9, 2, [(4, 0, 2, 1)], (0, 0, 0))
    whole = Wall(6, 2, [], (1, 2, 0))
    return [
        (plain, site_text([one], []), 0, 0),
        (plain, site_text([whole, one], []), 1, 0),
        (plain, site_text([whole, whole, other, one], [(0, 0, 1, 1)]), 2, 1),
        (plain, site_text([whole, whole, whole, other], []), 3, 1),
    ]


def no_sites():
    """Texts of at most 4,096 bytes that are no site's."""
    right = site_text(*RING)
    return no_walls() + [right[:-1], right + right, right + [120], right + text_of(["corner a left b right"])]
