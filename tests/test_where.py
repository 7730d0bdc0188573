"""Call 4, where: the number of the panel that has a place."""

import unittest

from tests.support import MOST, no_walls, panels_again, places, some_walls, too_long_texts, wall_text, Wall
from wallbonds.sites import where

OPENINGS = [(3, 1, 2, 2)]
TEXT = wall_text(12, 4, OPENINGS)


class Where(unittest.TestCase):

    def test_each_panel_about_an_opening(self):
        told = {(0, 0): 0, (11, 0): 0, (3, 0): 0, (0, 1): 1, (2, 2): 1, (5, 1): 2, (11, 2): 2, (0, 3): 3, (11, 3): 3}
        for (x, y), number in told.items():
            self.assertEqual(where(x, y, TEXT), [number, 0, 0])

    def test_an_open_place(self):
        for x, y in ((3, 1), (4, 1), (3, 2), (4, 2)):
            self.assertEqual(where(x, y, TEXT), [-3, 0, 0])

    def test_places_outside(self):
        for x, y in ((12, 0), (0, 4), (12, 4), (MOST, 0), (0, MOST), (MOST, MOST), (12, 1), (3, 4), (33, 3)):
            self.assertEqual(where(x, y, TEXT), [-1, 0, 0], (x, y))

    def test_the_last_place_and_one_beyond_it(self):
        for length, height in ((1, 1), (32, 8), (1, 8), (32, 1)):
            text = wall_text(length, height, [])
            self.assertEqual(where(length - 1, height - 1, text), [0, 0, 0])
            self.assertEqual(where(length, height - 1, text), [-1, 0, 0])
            self.assertEqual(where(length - 1, height, text), [-1, 0, 0])

    def test_a_wall_that_is_open_all_over(self):
        text = wall_text(2, 2, [(0, 0, 2, 2)])
        self.assertEqual(where(1, 1, text), [-3, 0, 0])
        self.assertEqual(where(2, 1, text), [-1, 0, 0])

    def test_every_place_of_walls_of_all_sizes(self):
        for length, height, openings in some_walls(60):
            text = wall_text(length, height, openings)
            numbers = {place: number for number, panel in enumerate(panels_again(Wall(length, height, openings, None)))
                       for place in places(panel)}
            for x in range(length):
                for y in range(height):
                    self.assertEqual(where(x, y, text), [numbers.get((x, y), -3), 0, 0], (text, x, y))

    def test_the_text_is_judged_before_the_place(self):
        for x, y in ((0, 0), (MOST, MOST)):
            for text in no_walls():
                self.assertEqual(where(x, y, text), [-6, 0, 0])
            for text in too_long_texts():
                self.assertEqual(where(x, y, text), [-1, 0, 0])


if __name__ == "__main__":
    unittest.main()
