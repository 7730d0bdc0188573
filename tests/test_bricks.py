"""Calls 13 to 15, bricks, brick and which: the bricks of a site filled, each counted once."""

import unittest

from tests.support import (
    BOND, JOINED, MOST, OPENED, RING, Bond, Wall, bond_text, bricks_again, closed_places, no_bonds, no_sites,
    not_filled_sites, site_text, some_filled_sites, too_long_texts, units_below)
from wallbonds.sites import brick, bricks, fills, which

PLAIN = Bond(1, 0, "", ("SH",))


def a_wall(length, height, *openings, ends=(0, 0, 0)):
    return Wall(length, height, list(openings), ends)


class BrickCase(unittest.TestCase):

    def handed(self, bond, site):
        return bond_text(bond), site_text(*site)

    def assert_bricks(self, bond, site, *numbers):
        self.assertEqual(bricks(*self.handed(bond, site)), [sum(numbers), 5, *numbers, 0])

    def assert_brick(self, bond, site, number, *told):
        self.assertEqual(brick(number, *self.handed(bond, site)), [0, 7, *told, 0])

    def assert_numbers(self, bond, site, wall, *courses):
        """courses: from above, a wall's numbers unit by unit, -3 for what is open."""
        handed = self.handed(bond, site)
        for y, numbers in enumerate(reversed(courses)):
            told = [which(wall, x, y, *handed) for x in range(len(numbers))]
            self.assertEqual(told, [[number, 0, 0] for number in numbers])


class Bricks(BrickCase):

    def test_without_corners(self):
        self.assert_bricks(PLAIN, ([a_wall(6, 1)], []), 1, 1, 0, 0, 0)
        self.assert_bricks(PLAIN, ([a_wall(6, 2, ends=(1, 0, 0)), a_wall(4, 1)], []), 3, 2, 0, 0, 0)
        self.assert_bricks(Bond(1, 1, "C", ("S",)), ([a_wall(10, 1), a_wall(2, 1)], []), 2, 0, 0, 0, 4)
        self.assert_bricks(Bond(1, 1, "T", ("S",)), ([a_wall(6, 1)], []), 0, 0, 2, 0, 0)
        self.assert_bricks(Bond(1, 1, "B", ("S",)), ([a_wall(6, 1)], []), 1, 0, 0, 1, 0)

    def test_open_all_over(self):
        self.assert_bricks(PLAIN, ([a_wall(3, 2, (0, 0, 3, 2))], []), 0, 0, 0, 0, 0)

    def test_a_corner_s_is_one_in_each_course_and_called_s(self):
        self.assert_bricks(BOND, JOINED, 6, 2, 0, 0, 0)
        self.assert_bricks(BOND, (JOINED[0], []), 6, 4, 0, 0, 0)

    def test_rings(self):
        self.assert_bricks(PLAIN, RING, 4, 0, 0, 0, 0)
        four = [a_wall(6, 2, ends=(1, 2, 0))] * 4
        self.assert_bricks(PLAIN, (four, [(0, 0, 3, 1), (0, 1, 1, 0), (1, 1, 2, 0), (2, 1, 3, 0)]), 8, 0, 0, 0, 0)
        self.assert_bricks(PLAIN, (four, [(0, 0, 1, 1), (0, 1, 1, 0), (2, 0, 3, 1), (2, 1, 3, 0)]), 8, 0, 0, 0, 0)
        self.assert_bricks(PLAIN, (four[:3], [(0, 0, 2, 1), (0, 1, 1, 0), (1, 1, 2, 0)]), 6, 0, 0, 0, 0)
        self.assert_bricks(PLAIN, (four[:3], [(0, 0, 2, 1), (0, 1, 2, 0)]), 6, 2, 0, 0, 0)

    def test_sites_of_all_sizes(self):
        for bond, walls, corners in some_filled_sites(150):
            letters = [letter for letter, course, faces in bricks_again(bond, walls, corners)]
            self.assert_bricks(bond, (walls, corners), *[letters.count(letter) for letter in "SHTBC"])


class Brick(BrickCase):

    def test_bricks_of_one_wall(self):
        site = [a_wall(6, 2, ends=(1, 0, 0)), a_wall(4, 1)], []
        self.assert_brick(PLAIN, site, 0, 0, 0, 0, 0, 0, 0, 0)
        self.assert_brick(PLAIN, site, 1, 1, 0, 0, 4, 0, 0, 0)
        self.assert_brick(PLAIN, site, 2, 0, 0, 1, 0, 0, 0, 0)
        self.assert_brick(PLAIN, site, 3, 1, 1, 0, 0, 0, 0, 0)
        self.assert_brick(PLAIN, site, 4, 0, 1, 0, 2, 0, 0, 0)

    def test_each_piece(self):
        for number, (letter, length) in enumerate((("S", 4), ("H", 2), ("T", 3), ("B", 2), ("C", 1))):
            site = [a_wall(length, 1)], []
            self.assert_brick(Bond(1, 1, letter, ("SSSSSSSS",)), site, 0, number, 0, 0, 0, 0, 0, 0)

    def test_a_corner_s_in_even_and_odd_courses(self):
        for number, told in enumerate(((0, 0, 0, 0, 1, 4, 0), (0, 0, 0, 4, 0, 0, 0), (1, 0, 0, 8, 0, 0, 0),
                                       (0, 0, 1, 0, 0, 0, 0), (0, 1, 0, 0, 1, 2, 0), (0, 1, 0, 2, 0, 0, 0),
                                       (0, 1, 0, 6, 0, 0, 0), (1, 1, 1, 0, 0, 0, 0))):
            self.assert_brick(BOND, JOINED, number, *told)

    def test_left_ends_and_right_ends(self):
        for number, told in enumerate(((0, 0, 0, 0, 1, 4, 0), (0, 0, 0, 4, 1, 0, 0),
                                       (0, 1, 0, 0, 1, 2, 0), (0, 1, 0, 2, 1, 0, 0))):
            self.assert_brick(PLAIN, RING, number, *told)
        lefts = [a_wall(6, 2, ends=(1, 0, 0)), a_wall(6, 2, ends=(2, 0, 0))], [(0, 0, 1, 0)]
        self.assert_brick(PLAIN, lefts, 0, 0, 0, 0, 0, 1, 0, 0)
        self.assert_brick(PLAIN, lefts, 3, 0, 1, 0, 0, 1, 0, 0)
        rights = [a_wall(6, 2, ends=(0, 1, 0)), a_wall(6, 2, ends=(0, 2, 0))], [(0, 1, 1, 1)]
        self.assert_brick(PLAIN, rights, 1, 0, 0, 0, 2, 1, 4, 0)
        self.assert_brick(PLAIN, rights, 4, 0, 1, 0, 4, 1, 2, 0)

    def test_walls_that_stand_apart_in_the_text(self):
        site = [a_wall(6, 1, ends=(1, 0, 0)), a_wall(4, 1), a_wall(6, 1, ends=(0, 2, 0))], [(0, 0, 2, 1)]
        self.assert_brick(PLAIN, site, 0, 0, 0, 0, 0, 2, 4, 0)
        self.assert_brick(PLAIN, site, 3, 0, 0, 2, 0, 0, 0, 0)

    def test_a_piece_as_long_as_its_wall(self):
        site = [a_wall(4, 1, ends=(1, 1, 0)), a_wall(2, 1, ends=(2, 2, 0))], [(0, 1, 1, 0)]
        self.assert_brick(PLAIN, site, 0, 0, 0, 0, 0, 1, 0, 0)
        self.assert_bricks(PLAIN, site, 1, 0, 0, 0, 0)

    def test_bricks_that_span(self):
        site = [a_wall(8, 2, (2, 0, 2, 1))], []
        self.assertEqual(bytes(fills(*self.handed(BOND, site))[3:]), b"S---S---\nH-..S---\n")
        self.assert_brick(BOND, site, 2, 0, 1, 0, 0, 0, 0, 1)
        self.assert_brick(BOND, site, 3, 0, 1, 0, 4, 0, 0, 0)
        self.assert_brick(BOND, ([a_wall(4, 2, (0, 0, 4, 1))], []), 0, 0, 1, 0, 0, 0, 0, 1)
        self.assert_brick(BOND, ([a_wall(5, 2, (0, 0, 1, 1))], []), 1, 0, 1, 0, 0, 0, 0, 1)

    def test_only_places_right_below_count(self):
        site = [a_wall(4, 3, (0, 0, 4, 1))], []
        self.assert_brick(BOND, site, 1, 0, 2, 0, 0, 0, 0, 0)
        site = [a_wall(8, 2, (0, 1, 4, 1))], []
        self.assert_brick(BOND, site, 2, 0, 1, 0, 4, 0, 0, 0)

    def test_a_corner_s_that_spans_in_the_other_wall_alone(self):
        self.assertEqual(bytes(fills(*self.handed(BOND, OPENED))[3:]).split(),
                         [b"H-S---S---", b"S---S---H-", b"S---S---", b"S---..H-"])
        for number, told in enumerate(((0, 0, 0, 0, 1, 6, 0), (0, 0, 0, 4, 0, 0, 0), (1, 0, 0, 8, 0, 0, 0),
                                       (0, 0, 1, 0, 0, 0, 0), (0, 1, 0, 0, 1, 4, 1), (0, 1, 0, 2, 0, 0, 0),
                                       (0, 1, 0, 6, 0, 0, 0), (0, 1, 1, 0, 0, 0, 0))):
            self.assert_brick(BOND, OPENED, number, *told)

    def test_a_corner_s_that_spans_in_the_wall_where_it_is_numbered(self):
        walls = [a_wall(8, 2, (4, 0, 2, 1), ends=(0, 2, 0)), a_wall(10, 2, ends=(1, 0, 0))]
        self.assert_brick(BOND, (walls, [(0, 1, 1, 0)]), 5, 0, 1, 0, 4, 1, 0, 1)

    def test_no_such_brick(self):
        for bond, site, count in ((BOND, JOINED, 8), (PLAIN, RING, 4), (PLAIN, ([a_wall(3, 2, (0, 0, 3, 2))], []), 0)):
            for number in (count, count + 1, MOST):
                self.assertEqual(brick(number, *self.handed(bond, site)), [-3, 0, 0])
            if count:
                self.assertEqual(brick(count - 1, *self.handed(bond, site))[0], 0)

    def test_sites_of_all_sizes(self):
        spanning = 0
        for bond, walls, corners in some_filled_sites(150)[1::2]:
            handed = self.handed(bond, (walls, corners))
            opened = {(number, x, y) for number, wall in enumerate(walls) for x in range(wall.length)
                      for y in range(wall.height) if (x, y) not in closed_places(wall)}
            for number, again in enumerate(bricks_again(bond, walls, corners)):
                letter, course, faces = again
                firsts = [min(face)[:2] for face in faces] + [(0, 0)]
                spans = int(bool(units_below(again) & opened))
                told = ["SHTBC".index(letter), course, *firsts[0], *firsts[1], spans]
                self.assertEqual(brick(number, *handed), [0, 7, *told, 0], (bond, walls, corners))
                spanning += spans
        self.assertGreater(spanning, 15)


class Which(BrickCase):

    def test_every_unit_of_both_walls_of_a_corner(self):
        self.assert_numbers(BOND, JOINED, 0, [4, 4, 5, 5, 5, 5, 6, 6, 6, 6], [0, 0, 0, 0, 1, 1, 1, 1, 2, 2])
        self.assert_numbers(BOND, JOINED, 1, [7, 7, 4, 4, 4, 4], [3, 3, 3, 3, 0, 0])
        self.assert_numbers(PLAIN, RING, 0, [2, 2, 3, 3, 3, 3], [0, 0, 0, 0, 1, 1])
        self.assert_numbers(PLAIN, RING, 1, [3, 3, 2, 2, 2, 2], [1, 1, 1, 1, 0, 0])

    def test_several_stretches_and_open_places(self):
        site = [a_wall(10, 2, (4, 0, 2, 1)), a_wall(4, 3, (0, 1, 4, 1))], []
        self.assert_numbers(BOND, site, 0, [3, 3, 3, 3, 4, 4, 4, 4, 5, 5], [0, 0, 0, 0, -3, -3, 1, 1, 1, 1])
        self.assert_numbers(BOND, site, 1, [6] * 4, [-3] * 4, [2] * 4)

    def test_places_outside(self):
        handed = self.handed(BOND, JOINED)
        for wall, x, y in ((0, 10, 0), (0, 0, 2), (1, 6, 0), (1, 0, 2), (2, 0, 0), (MOST, 0, 0), (0, MOST, 0),
                           (0, 0, MOST), (MOST, MOST, MOST), (1, 9, 1)):
            self.assertEqual(which(wall, x, y, *handed), [-3, 0, 0])
        for wall, x, y in ((0, 9, 1), (1, 5, 1)):
            self.assertGreaterEqual(which(wall, x, y, *handed)[0], 0)

    def test_walls_of_several_heights(self):
        site = [a_wall(4, 1), a_wall(4, 3), a_wall(4, 2)], []
        self.assert_numbers(BOND, site, 0, [-3] * 4, [-3] * 4, [0] * 4)
        self.assert_numbers(BOND, site, 1, [5] * 4, [3] * 4, [1] * 4)
        self.assert_numbers(BOND, site, 2, [-3] * 4, [4] * 4, [2] * 4)

    def test_sites_of_all_sizes(self):
        for bond, walls, corners in some_filled_sites(150)[::5]:
            handed = self.handed(bond, (walls, corners))
            numbers = {unit: number for number, again in enumerate(bricks_again(bond, walls, corners))
                       for face in again[2] for unit in face}
            for wall in range(len(walls) + 1):
                long, high = walls[wall][:2] if wall < len(walls) else (1, 1)
                for x in range(long + 1):
                    for y in range(high + 1):
                        told = numbers.get((wall, x, y), -3)
                        self.assertEqual(which(wall, x, y, *handed), [told, 0, 0], (bond, walls, corners))


class Refused(unittest.TestCase):

    def calls(self):
        yield bricks
        for number in (0, MOST):
            yield lambda b, u, i=number: brick(i, b, u)
            yield lambda b, u, i=number: which(i, i, i, b, u)

    def test_a_wall_that_cannot_be_filled(self):
        for call in self.calls():
            for bond, site, wall, panel in not_filled_sites():
                self.assertEqual(call(bond, site), [-3, 2, wall, panel, 0])

    def test_texts_that_are_none(self):
        right = bond_text(BOND), site_text(*JOINED)
        for call in self.calls():
            for bond, line, kind in no_bonds():
                self.assertEqual(call(bond, right[1]), [-6, 0, 0])
            for site in no_sites():
                self.assertEqual(call(right[0], site), [-6, 0, 0])
                self.assertEqual(call([], site), [-6, 0, 0])

    def test_too_long_comes_first(self):
        right = bond_text(BOND), site_text(*JOINED)
        for call in self.calls():
            for text in too_long_texts():
                for bond in (right[0], [], text):
                    self.assertEqual(call(bond, text), [-1, 0, 0])
                for site in (right[1], [], text):
                    self.assertEqual(call(text, site), [-1, 0, 0])


if __name__ == "__main__":
    unittest.main()
