"""What the tests share: texts of walls, and a second reading of them, written another way than the program's."""

import random
import re

ENDS = ("free", "side", "end")
HEAD = ("wall a", "long 12", "high 4", "left side", "right end", "reveal free")
HEAD_FORMS = (
    r"wall ([a-z]+)",
    r"long (0|[1-9][0-9]{0,4})",
    r"high (0|[1-9][0-9]{0,4})",
    r"left (free|side|end)",
    r"right (free|side|end)",
    r"reveal (free|side|end)",
)
OPENING_FORM = "open" + r" (0|[1-9][0-9]{0,4})" * 4


def as_bytes(text):
    return list(text.encode("latin-1"))


def text_of(lines):
    return as_bytes("".join(line + "\n" for line in lines))


def head_with(number, line):
    return HEAD[:number] + (line,) + HEAD[number + 1:]


def no_walls():
    """Texts of at most 4,096 bytes that are no wall's, of each kind of fault."""
    return [
        [],
        [10] * 4096,
        text_of(HEAD[:5]),
        text_of(HEAD)[:-1],
        text_of(head_with(0, "wall " + "a" * 16)),
        text_of(head_with(1, "long 33")),
        text_of(head_with(2, "high 9")),
        text_of(head_with(3, "left none")),
        text_of(HEAD + ("open 4 0 9 1",)),
        text_of(HEAD + ("open 4 0 1 1", "open 2 0 1 1")),
        text_of(HEAD + ("open 4 0 2 1", "open 5 0 1 1")),
        text_of(HEAD + tuple(f"open {x} 0 1 1" for x in range(9))),
    ]


def too_long_texts():
    start = text_of(HEAD)
    return [start + [10] * (length - len(start)) for length in (4097, 5000, 6000)] + [[0] * 4097, [0] * 6000]


def wall_text(length, height, openings, ends=(0, 0, 0), name="a"):
    lines = ["wall " + name, f"long {length}", f"high {height}"]
    lines += [f"{word} {ENDS[end]}" for word, end in zip(("left", "right", "reveal"), ends)]
    lines += ["open %d %d %d %d" % opening for opening in openings]
    return text_of(lines)


def places(opening):
    x, y, w, h = opening
    return {(place, course) for place in range(x, x + w) for course in range(y, y + h)}


def opening_kind(numbers, length, height, before):
    x, y, w, h = numbers
    if w < 1 or h < 1 or x + w > length or y + h > height:
        return 2
    if before and (y, x) <= (before[-1][1], before[-1][0]):
        return 3
    if any(places(numbers) & places(other) for other in before):
        return 4
    return 5 if len(before) >= 8 else 0


def head_kind(number, value):
    if number == 0:
        return 2 if len(value) > 15 else 0
    if number in (1, 2):
        return 0 if 1 <= int(value) <= (32, 8)[number - 1] else 2
    return 0


def first_fault(text):
    """(line, kind) of a text's first fault, or None if it is a wall's."""
    *lines, rest = bytes(text).decode("latin-1").split("\n")
    head, openings = [], []
    for number, line in enumerate(lines):
        match = re.fullmatch(HEAD_FORMS[number] if number < 6 else OPENING_FORM, line)
        if not match:
            return number, 1
        if number < 6:
            kind = head_kind(number, match[1])
            head.append(match[1])
        else:
            numbers = tuple(map(int, match.groups()))
            kind = opening_kind(numbers, int(head[1]), int(head[2]), openings)
            openings.append(numbers)
        if kind:
            return number, kind
    if rest or len(lines) < 6:
        return len(lines), 1
    return None


def some_walls(how_many):
    """(length, height, openings) of walls of all sizes, the same ones every time."""
    source = random.Random(20)
    for _ in range(how_many):
        length, height = source.randint(1, 32), source.randint(1, 8)
        openings, taken = [], set()
        for _ in range(source.randint(0, 14)):
            x, y = source.randrange(length), source.randrange(height)
            opening = (x, y, source.randint(1, min(9, length - x)), source.randint(1, height - y))
            if len(openings) < 8 and not places(opening) & taken:
                openings.append(opening)
                taken |= places(opening)
        yield length, height, sorted(openings, key=lambda o: (o[1], o[0]))
