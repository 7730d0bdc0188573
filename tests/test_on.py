"""Call 16, on: the bricks that a brick lies on."""

import unittest

from tests.support import (
    BOND, JOINED, MOST, OPENED, RING, Bond, Wall, bond_text, bricks_again, no_bonds, no_sites, not_filled_sites,
    site_text, some_filled_sites, too_long_texts, units_below)
from wallbonds.sites import fills, on

PLAIN = Bond(1, 0, "", ("SH",))


def a_wall(length, height, *openings, ends=(0, 0, 0)):
    return Wall(length, height, list(openings), ends)


class On(unittest.TestCase):

    def assert_on(self, bond, site, number, *told):
        self.assertEqual(on(number, bond_text(bond), site_text(*site)), [0, len(told), *told, 0])

    def assert_drawn(self, bond, site, *lines):
        self.assertEqual(bytes(fills(bond_text(bond), site_text(*site))[3:]).decode().split(), list(lines))

    def test_the_lowest_course(self):
        for number in range(4):
            self.assert_on(BOND, JOINED, number)
        for number in range(2):
            self.assert_on(PLAIN, RING, number)

    def test_upon_one_and_two(self):
        site = [a_wall(6, 3, ends=(1, 0, 0))], []
        self.assert_drawn(PLAIN, site, "S---H-", "H-S---", "S---H-")
        for number, told in ((0, ()), (1, ()), (2, (0,)), (3, (0, 1)), (4, (2, 3)), (5, (3,))):
            self.assert_on(PLAIN, site, number, *told)

    def test_upon_more(self):
        quarters = Bond(1, 2, "C", ("SSSSSSSS",))
        site = [a_wall(8, 2, (3, 0, 2, 1))], []
        self.assert_drawn(quarters, site, "S---S---", "CCC..CCC")
        self.assert_on(quarters, site, 6, 0, 1, 2)
        self.assert_on(quarters, site, 7, 3, 4, 5)

    def test_bricks_that_span(self):
        site = [a_wall(8, 2, (2, 0, 2, 1))], []
        self.assert_drawn(BOND, site, "S---S---", "H-..S---")
        self.assert_on(BOND, site, 2, 0)
        self.assert_on(BOND, site, 3, 1)

    def test_upon_nothing_where_all_below_is_open(self):
        self.assert_on(BOND, ([a_wall(4, 2, (0, 0, 4, 1))], []), 0)
        site = [a_wall(8, 3, (0, 1, 4, 1))], []
        self.assert_drawn(BOND, site, "S---S---", "....S---", "S---S---")
        for number, told in ((2, (1,)), (3, ()), (4, (2,))):
            self.assert_on(BOND, site, number, *told)

    def test_a_corner_s_brick_upon_bricks_of_both_walls(self):
        for number, told in ((4, (0, 3)), (5, (0, 1)), (6, (1, 2)), (7, (3,))):
            self.assert_on(BOND, JOINED, number, *told)

    def test_a_corner_s_brick_upon_corners(self):
        self.assert_on(PLAIN, RING, 2, 0, 1)
        self.assert_on(PLAIN, RING, 3, 0, 1)

    def test_a_corner_s_brick_that_spans_in_the_other_wall(self):
        for number, told in ((4, (0,)), (5, (0, 1)), (6, (1, 2)), (7, (3,))):
            self.assert_on(BOND, OPENED, number, *told)

    def test_a_wall_lower_than_another(self):
        site = [a_wall(4, 1), a_wall(4, 3), a_wall(4, 2)], []
        for number, told in ((0, ()), (1, ()), (2, ()), (3, (1,)), (4, (2,)), (5, (3,))):
            self.assert_on(BOND, site, number, *told)

    def test_no_such_brick(self):
        for bond, site, count in ((BOND, JOINED, 8), (PLAIN, RING, 4), (PLAIN, ([a_wall(3, 2, (0, 0, 3, 2))], []), 0)):
            for number in (count, count + 1, MOST):
                self.assertEqual(on(number, bond_text(bond), site_text(*site)), [-3, 0, 0])

    def test_sites_of_all_sizes(self):
        for bond, walls, corners in some_filled_sites(150)[::2]:
            found = bricks_again(bond, walls, corners)
            for number, again in enumerate(found):
                below = units_below(again)
                told = [lower for lower, other in enumerate(found) if any(below & face for face in other[2])]
                self.assert_on(bond, (walls, corners), number, *told)


class Refused(unittest.TestCase):

    def test_a_wall_that_cannot_be_filled(self):
        for number in (0, MOST):
            for bond, site, wall, panel in not_filled_sites():
                self.assertEqual(on(number, bond, site), [-3, 2, wall, panel, 0])

    def test_texts_that_are_none(self):
        right = bond_text(BOND), site_text(*JOINED)
        for number in (0, MOST):
            for bond, line, kind in no_bonds():
                self.assertEqual(on(number, bond, right[1]), [-6, 0, 0])
            for site in no_sites():
                self.assertEqual(on(number, right[0], site), [-6, 0, 0])

    def test_too_long_comes_first(self):
        for number in (0, MOST):
            for text in too_long_texts():
                for other in (bond_text(BOND), site_text(*JOINED), [], text):
                    self.assertEqual(on(number, text, other), [-1, 0, 0])
                    self.assertEqual(on(number, other, text), [-1, 0, 0])


if __name__ == "__main__":
    unittest.main()
