"""Calls 10 and 11, text and corner: a site's walls and corners by their numbers (P1)."""

import unittest

from tests.support import MOST, Wall, no_walls, site_text, some_sites, text_of, text_of_wall, too_long_texts
from wallbonds.sites import corner, sizes, text, wall

TURN = Wall(8, 2, [], (1, 2, 0))
GREAT = Wall(32, 8, [(4 * k, 0, 2, 5) for k in range(8)], (0, 1, 2))
WALLS = [TURN, GREAT, Wall(1, 1, [], (2, 0, 1)), TURN]


class Text(unittest.TestCase):

    def assert_texts(self, walls, corners, names="abcd"):
        whole = site_text(walls, corners, names)
        for number, (one, name) in enumerate(zip(walls, names)):
            told = text_of_wall(one, name)
            self.assertEqual(text(number, whole), [0, 0, len(told)] + told)
            self.assertEqual(wall(told), [len(one.openings), 0, 0])
        for number in (len(walls), len(walls) + 1, MOST):
            self.assertEqual(text(number, whole), [-3, 0, 0])

    def test_each_wall(self):
        self.assert_texts([TURN], [])
        self.assert_texts(WALLS, [(0, 0, 3, 1), (0, 1, 3, 0)])
        self.assert_texts(WALLS, [], ("z" * 15, "wall", "corner", "left"))

    def test_sites_of_all_sizes(self):
        for walls, corners in some_sites(200, seed=71):
            self.assert_texts(walls, corners)

    def test_the_site_is_its_walls_and_corners(self):
        for walls, corners in some_sites(100, seed=72):
            whole = site_text(walls, corners)
            again = [byte for number in range(len(walls)) for byte in text(number, whole)[3:]]
            told = [corner(number, whole)[2:6] for number in range(sizes(whole)[3])]
            names, sides = "abcd", ("left", "right")
            again += text_of(f"corner {names[one]} {sides[end]} {names[two]} {sides[other]}"
                             for one, end, two, other in told)
            self.assertEqual(again, whole)


class CornerCase(unittest.TestCase):

    def assert_corners(self, walls, corners):
        whole = site_text(walls, corners)
        for number, told in enumerate(corners):
            self.assertEqual(corner(number, whole), [0, 4, *told, 0])
        for number in (len(corners), len(corners) + 1, MOST):
            self.assertEqual(corner(number, whole), [-3, 0, 0])

    def test_no_corner(self):
        self.assert_corners([TURN], [])
        self.assert_corners([TURN] * 4, [])

    def test_left_and_right(self):
        turned = Wall(8, 2, [], (2, 1, 0))
        self.assert_corners([TURN] * 2, [(0, 0, 1, 1)])
        self.assert_corners([TURN] * 2, [(0, 1, 1, 0)])
        self.assert_corners([TURN, turned], [(0, 0, 1, 0)])
        self.assert_corners([TURN, turned], [(0, 1, 1, 1)])

    def test_in_the_order_of_the_lines(self):
        self.assert_corners([TURN] * 4, [(0, 0, 3, 1), (0, 1, 1, 0), (1, 1, 2, 0), (2, 1, 3, 0)])
        self.assert_corners([TURN] * 4, [(0, 0, 1, 1), (0, 1, 1, 0), (2, 0, 3, 1), (2, 1, 3, 0)])
        self.assert_corners([TURN] * 4, [(1, 0, 2, 1), (1, 1, 3, 0)])

    def test_sites_of_all_sizes(self):
        for walls, corners in some_sites(200, seed=73):
            self.assert_corners(walls, corners)


class Refused(unittest.TestCase):

    def test_the_text_is_judged_before_the_number(self):
        right = site_text([TURN] * 2, [(0, 0, 1, 1)])
        for call in (text, corner):
            for number in (0, 1, MOST):
                for whole in no_walls() + [right[:-1], right + right, right + [120]]:
                    self.assertEqual(call(number, whole), [-6, 0, 0])
                for whole in too_long_texts():
                    self.assertEqual(call(number, whole), [-1, 0, 0])


if __name__ == "__main__":
    unittest.main()
