"""The promises P1 to P7, each by a test of its own, and the refusals' order over all calls."""

import itertools
import unittest

from tests.support import (
    BOND, HEAD, MOST, RING, Bond, Wall, all_rows, as_bytes, bond_text, closed_places, cuts_of, draw_row, drawn_floor,
    first_fault, first_filling, judge_again, panel_ends, places, site_again, site_text, some_filled, some_filled_sites,
    some_sites, some_walls, text_of, text_of_wall, wall_text)
from wallbonds import sites


def drawn(answer):
    return bytes(answer[3:]).decode()


def grids_of(bond, walls, corners):
    """Of each wall of a site filled its courses from below, unit by unit."""
    lines = drawn(sites.fills(bond_text(bond), site_text(walls, corners))).split("\n")[:-1]
    grids = []
    for wall in walls:
        grids.append(lines[:wall.height][::-1])
        lines = lines[wall.height:]
    return grids


class Promises(unittest.TestCase):

    def changed(self, text):
        yield text
        for place in range(len(text)):
            yield text[:place] + text[place + 1:]
            for byte in as_bytes("\n 0aSx"):
                yield text[:place] + [byte] + text[place + 1:]
                yield text[:place] + [byte] + text[place:]

    def test_p1_a_wall_s_text_is_one_s_or_refused_with_its_first_fault(self):
        for text in self.changed(text_of(HEAD + ("open 2 0 3 2", "open 7 0 2 1"))):
            fault = first_fault(text)
            told = [text.count(10) - 6, 0, 0] if fault is None else [-6, 2, *fault, 0]
            self.assertEqual(sites.wall(text), told)
            if fault is None:
                name, *head = [line.split()[1] for line in bytes(text).decode().split("\n")[:6]]
                ends = [("free", "side", "end").index(word) for word in head[2:]]
                openings = [tuple(map(int, line.split()[1:])) for line in bytes(text).decode().split("\n")[6:-1]]
                self.assertEqual(wall_text(int(head[0]), int(head[1]), openings, ends, name), text)
                self.assertEqual(sites.size(text)[2:7], [int(head[0]), int(head[1]), *ends])

    def test_p1_a_site_s_text_is_one_s_or_refused_with_its_first_fault(self):
        for walls, corners in some_sites(12, seed=101):
            for text in self.changed(site_text(walls, corners)):
                told = site_again(text)
                if isinstance(told[0], int):
                    self.assertEqual(sites.site(text), [-6, 2, *told, 0])
                else:
                    self.assertEqual(sites.site(text), [len(told[0]), 0, 0])
                    again = [byte for number in range(len(told[0])) for byte in sites.text(number, text)[3:]]
                    self.assertEqual(again, text[:len(again)])

    def test_p2_panels_cover_the_wall(self):
        for length, height, openings in some_walls(150):
            text = wall_text(length, height, openings)
            row = sites.panels(text)[2:-1]
            found = [tuple(row[k:k + 4]) for k in range(0, len(row), 4)]
            closed = closed_places(Wall(length, height, openings, None))
            self.assertEqual(sorted(place for panel in found for place in places(panel)), sorted(closed))
            for number, (x, y, long, courses) in enumerate(found):
                for course in range(height):
                    above_or_below = all((x + k, course) in closed for k in range(long))
                    alone = (x - 1, course) not in closed and (x + long, course) not in closed
                    if y <= course < y + courses:
                        self.assertTrue(above_or_below and alone)
                        self.assertEqual(sites.where(x, course, text), [number, 0, 0])
                    elif course in (y - 1, y + courses):
                        self.assertFalse(above_or_below and alone)

    def test_p3_a_wall_filled_is_whole_and_no_panel_has_fewer_cuts(self):
        filled = 0
        for bond, wall in some_filled(400, 14, 6, seed=102):
            handed = bond_text(bond), text_of_wall(wall)
            answer = sites.fill(*handed)
            if answer[0] == 0:
                filled += 1
                grid = drawn(answer).split("\n")[-2::-1]
                self.assertEqual(sites.check(*handed, answer[3:]), [cuts_of(drawn(answer)), 0, 0])
                row = sites.panels(handed[1])[2:-1]
                for k in range(0, len(row), 4):
                    x, y, length, courses = panel = row[k:k + 4]
                    least = first_filling(bond, panel, panel_ends(wall, panel), drawn_floor(grid, panel))
                    cuts = sum(cuts_of(line[x:x + length]) for line in grid[y:y + courses])
                    self.assertEqual(cuts, sum(map(cuts_of, least)))
        self.assertGreater(filled, 80)

    def test_p4_judged_whole_is_just_what_is_whole(self):
        bonds = (BOND, Bond(2, 1, "HC", ("S", "H")), Bond(1, 2, "TC", ("H",)))
        walls = (Wall(5, 2, [(2, 0, 1, 1)], (0, 0, 0)), Wall(4, 2, [(3, 1, 1, 1)], (0, 0, 2)),
                 Wall(4, 3, [(0, 1, 2, 1)], (1, 0, 0)))
        whole = 0
        for bond, wall in itertools.product(bonds, walls):
            lines = []
            for y in range(wall.height):
                stretches = "".join("#" if (x, y) in closed_places(wall) else "." for x in range(wall.length))
                parts = [[draw_row(row) for row in all_rows(len(part))] if part[0] == "#" else [part]
                         for part in (("".join(same)) for _, same in itertools.groupby(stretches))]
                lines.append(["".join(chosen) for chosen in itertools.product(*parts)])
            for chosen in itertools.islice(itertools.product(*reversed(lines)), 0, None, 3):
                drawing = "".join(line + "\n" for line in chosen)
                told = judge_again(bond, wall, drawing)
                answer = sites.check(bond_text(bond), text_of_wall(wall), as_bytes(drawing))
                self.assertEqual(answer, [told, 0, 0] if isinstance(told, int) else [-5, 3, *told, 0])
                whole += isinstance(told, int)
        self.assertGreater(whole, 60)

    def test_p5_a_corner_s_brick_is_one(self):
        for bond, walls, corners in some_filled_sites(40, seed=103):
            handed = bond_text(bond), site_text(walls, corners)
            grids = grids_of(bond, walls, corners)
            for one, end, two, other in corners:
                letters = []
                for y in range(walls[one].height):
                    x, z = (0 if side == 0 else walls[wall].length - 1 for wall, side in ((one, end), (two, other)))
                    number = sites.which(one, x, y, *handed)
                    self.assertEqual(sites.which(two, z, y, *handed), number)
                    row = sites.brick(number[0], *handed)[2:9]
                    self.assertEqual((row[0], row[1], row[2], row[4]), (0, y, one, two))
                    letters.append(grids[one][y][row[3]] + grids[two][y][row[5]])
                self.assertIn(letters[0], ("SH", "HS"))
                for below, above in zip(letters, letters[1:]):
                    self.assertEqual(above, below[::-1])

    def test_p6_bricks_are_counted_once(self):
        for bond, walls, corners in some_filled_sites(40, seed=104):
            handed = bond_text(bond), site_text(walls, corners)
            grids = grids_of(bond, walls, corners)
            joined = sum(walls[corner[0]].height for corner in corners)
            letters = "".join(line for grid in grids for line in grid)
            numbers = [letters.count(letter) for letter in "SHTBC"]
            numbers[1] -= joined
            self.assertEqual(sites.bricks(*handed), [sum(numbers), 5, *numbers, 0])
            order = []
            for number in range(sum(numbers)):
                piece, course, wall, place, other, there, spans = sites.brick(number, *handed)[2:9]
                self.assertEqual(sites.which(wall, place, course, *handed), [number, 0, 0])
                order.append((course, wall, place))
            self.assertEqual(order, sorted(set(order)))
            self.assertEqual(sites.brick(sum(numbers), *handed), [-3, 0, 0])

    def test_p7_a_brick_lies_on_just_those_told(self):
        for bond, walls, corners in some_filled_sites(20, seed=105):
            handed = bond_text(bond), site_text(walls, corners)
            units = {}
            for wall, (long, high, openings, ends) in enumerate(walls):
                for x, y in itertools.product(range(long), range(high)):
                    units[wall, x, y] = sites.which(wall, x, y, *handed)[0]
            for number in range(sites.bricks(*handed)[0]):
                below = {units[wall, x, y - 1] for (wall, x, y), brick in units.items() if brick == number and y > 0}
                told = sites.on(number, *handed)
                self.assertEqual(told[2:-1], sorted(below - {-3}))
                piece, course, wall, place, other, there, spans = sites.brick(number, *handed)[2:9]
                self.assertEqual(spans, int(-3 in below))
                self.assertTrue(told[1] > 0 or course == 0 or spans)


RIGHT = {"b": bond_text(BOND), "t": wall_text(6, 2, [(4, 0, 2, 1)]), "u": site_text(*RING),
         "d": as_bytes("S---H-\nS---..\n")}
CALLS = ("wall t", "size t", "panels t", "where x y t", "fill b t", "counts b t", "check b t d", "site u", "sizes u",
         "text i u", "corner i u", "fills b u", "bricks b u", "brick i b u", "which wall x y b u", "on i b u")


class Order(unittest.TestCase):

    def choices(self, argument):
        """(what is handed in, how it is)."""
        if argument not in RIGHT:
            return [(0, "right"), (MOST, "beyond")]
        right = [(RIGHT[argument], "right"), ([0] * 4097, "long"), (RIGHT[argument] + [10] * 5000, "long")]
        return right + [([], "none"), ([0] * 4096, "none"), (RIGHT[argument][:-1], "none")]

    def expected(self, name, how):
        if "long" in how.values():
            return -1
        if "none" in [how.get(text) for text in ("b", "t", "u")]:
            return -6
        if "beyond" in how.values():
            return -1 if name == "where" else -3
        return -5 if how.get("d") == "none" else 0

    def test_every_call_refuses_with_the_first_in_order(self):
        for call in CALLS:
            name, *arguments = call.split()
            for chosen in itertools.product(*map(self.choices, arguments)):
                answer = getattr(sites, name)(*[list(part) if isinstance(part, list) else part for part, how in chosen])
                told = self.expected(name, dict(zip(arguments, [how for part, how in chosen])))
                if told == 0:
                    self.assertGreaterEqual(answer[0], 0, call)
                else:
                    self.assertEqual(answer[0], told, call)
                    beside = {-6: 2 * (name in ("wall", "site")), -5: 3}.get(told, 0)
                    self.assertEqual((answer[1], answer[-1], len(answer)), (beside, 0, beside + 3), call)

    def test_a_site_that_cannot_be_filled_comes_before_a_number_beyond(self):
        bond = bond_text(Bond(1, 0, "", ("S",)))
        site = site_text([Wall(4, 1, [], (0, 0, 0)), Wall(3, 1, [], (0, 0, 0))], [])
        for number in (0, MOST):
            for answer in (sites.brick(number, bond, site), sites.on(number, bond, site),
                           sites.which(number, 0, 0, bond, site), sites.which(0, number, number, bond, site)):
                self.assertEqual(answer, [-3, 2, 1, 0, 0])


if __name__ == "__main__":
    unittest.main()
