"""Call 2, size: length, height, the three ends, openings, panels."""

import unittest

from tests.support import HEAD, no_walls, text_of, too_long_texts, wall_text
from wallbonds.sites import size


class Size(unittest.TestCase):

    def assert_size(self, text, numbers):
        self.assertEqual(size(text), [0, 7] + numbers + [0], bytes(text))

    def test_a_wall_without_openings(self):
        self.assert_size(text_of(HEAD), [12, 4, 1, 2, 0, 0, 1])

    def test_a_wall_with_openings(self):
        self.assert_size(wall_text(12, 4, [(3, 1, 2, 2)]), [12, 4, 0, 0, 0, 1, 4])
        self.assert_size(wall_text(12, 4, [(2, 0, 3, 2), (7, 0, 2, 1)]), [12, 4, 0, 0, 0, 2, 5])

    def test_every_word_at_every_end(self):
        for left in range(3):
            for right in range(3):
                for reveal in range(3):
                    text = wall_text(8, 2, [], (left, right, reveal))
                    self.assert_size(text, [8, 2, left, right, reveal, 0, 1])

    def test_the_bounds(self):
        self.assert_size(wall_text(1, 1, []), [1, 1, 0, 0, 0, 0, 1])
        self.assert_size(wall_text(32, 8, [], (2, 1, 2), "z" * 15), [32, 8, 2, 1, 2, 0, 1])
        eight = [(4 * k, 0, 1, 8) for k in range(8)]
        self.assert_size(wall_text(32, 8, eight), [32, 8, 0, 0, 0, 8, 8])

    def test_a_wall_that_is_open_all_over_has_no_panel(self):
        self.assert_size(wall_text(12, 4, [(0, 0, 12, 4)]), [12, 4, 0, 0, 0, 1, 0])
        self.assert_size(wall_text(1, 1, [(0, 0, 1, 1)]), [1, 1, 0, 0, 0, 1, 0])

    def test_refusals_stand_alone(self):
        for text in no_walls():
            self.assertEqual(size(text), [-6, 0, 0], bytes(text[:99]))
        for text in too_long_texts():
            self.assertEqual(size(text), [-1, 0, 0], len(text))


if __name__ == "__main__":
    unittest.main()
