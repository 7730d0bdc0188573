"""Call 9, sizes: walls, corners, parts, rings."""

import unittest

from tests.support import Wall, no_walls, site_text, some_sites, text_of, too_long_texts
from wallbonds.sites import sizes

# The left end goes with every right one.
TURN = Wall(8, 2, [], (1, 2, 0))


class Sizes(unittest.TestCase):

    def assert_sizes(self, count, corners, parts, rings):
        text = site_text([TURN] * count, corners)
        self.assertEqual(sizes(text), [0, 4, count, len(corners), parts, rings, 0], corners)

    def test_without_corners(self):
        for count in range(1, 5):
            self.assert_sizes(count, [], count, 0)

    def test_walls_in_a_row(self):
        self.assert_sizes(2, [(0, 0, 1, 1)], 1, 0)
        self.assert_sizes(2, [(0, 1, 1, 0)], 1, 0)
        self.assert_sizes(3, [(0, 1, 1, 0), (1, 1, 2, 0)], 1, 0)
        self.assert_sizes(3, [(0, 0, 2, 1), (1, 1, 2, 0)], 1, 0)
        self.assert_sizes(4, [(0, 1, 1, 0), (1, 1, 2, 0), (2, 1, 3, 0)], 1, 0)
        self.assert_sizes(4, [(0, 0, 3, 1), (1, 1, 2, 0), (2, 1, 3, 0)], 1, 0)

    def test_several_parts(self):
        self.assert_sizes(3, [(0, 0, 2, 1)], 2, 0)
        self.assert_sizes(4, [(0, 0, 2, 1), (1, 0, 3, 1)], 2, 0)
        self.assert_sizes(4, [(1, 0, 3, 1)], 3, 0)

    def test_rings(self):
        self.assert_sizes(2, [(0, 0, 1, 1), (0, 1, 1, 0)], 1, 1)
        self.assert_sizes(3, [(0, 0, 2, 1), (0, 1, 1, 0), (1, 1, 2, 0)], 1, 1)
        self.assert_sizes(4, [(0, 0, 3, 1), (0, 1, 1, 0), (1, 1, 2, 0), (2, 1, 3, 0)], 1, 1)

    def test_rings_beside_other_parts(self):
        self.assert_sizes(3, [(0, 0, 2, 1), (0, 1, 2, 0)], 2, 1)
        self.assert_sizes(4, [(0, 0, 1, 1), (0, 1, 1, 0), (2, 0, 3, 1), (2, 1, 3, 0)], 2, 2)
        self.assert_sizes(4, [(0, 0, 1, 1), (0, 1, 1, 0), (2, 0, 3, 1)], 2, 1)
        self.assert_sizes(4, [(0, 0, 3, 1), (0, 1, 2, 0), (2, 1, 3, 0)], 2, 1)

    def test_sites_of_all_sizes(self):
        for walls, corners in some_sites(300, seed=61):
            parts = [{number} for number in range(len(walls))]
            for one, end, two, other in corners:
                joined = [part for part in parts if one in part or two in part]
                parts = [part for part in parts if part not in joined] + [set().union(*joined)]
            rings = sum(len(part) == sum(corner[0] in part for corner in corners) for part in parts)
            told = [0, 4, len(walls), len(corners), len(parts), rings, 0]
            self.assertEqual(sizes(site_text(walls, corners)), told, (walls, corners))

    def test_refusals_stand_alone(self):
        right = site_text([TURN] * 2, [(0, 0, 1, 1)])
        for text in no_walls() + [right[:-1], right + text_of(["x"]), right + right]:
            self.assertEqual(sizes(text), [-6, 0, 0])
        for text in too_long_texts():
            self.assertEqual(sizes(text), [-1, 0, 0])


if __name__ == "__main__":
    unittest.main()
