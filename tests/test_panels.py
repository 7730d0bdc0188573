"""Call 3, panels: the wall's stretches in courses one above another (P2)."""

import unittest

from tests.support import no_walls, places, some_walls, too_long_texts, wall_text
from wallbonds.sites import panels, size


def panels_in(answer):
    row = answer[2:-1]
    return [tuple(row[k:k + 4]) for k in range(0, len(row), 4)]


def stretch_about(closed, place, course):
    first, end = place, place + 1
    while (first - 1, course) in closed:
        first -= 1
    while (end, course) in closed:
        end += 1
    return first, end - first


class Told(unittest.TestCase):

    def assert_panels(self, length, height, openings, told):
        numbers = [number for panel in told for number in panel]
        answer = panels(wall_text(length, height, openings))
        self.assertEqual(answer, [0, len(numbers)] + numbers + [0], (length, height, openings))

    def test_without_openings_the_wall_is_one(self):
        for length, height in ((1, 1), (12, 4), (32, 8), (32, 1), (1, 8)):
            self.assert_panels(length, height, [], [(0, 0, length, height)])

    def test_about_an_opening(self):
        self.assert_panels(12, 4, [(3, 1, 2, 2)], [(0, 0, 12, 1), (0, 1, 3, 2), (5, 1, 7, 2), (0, 3, 12, 1)])

    def test_an_opening_at_the_foot_and_one_at_the_top(self):
        self.assert_panels(12, 4, [(3, 0, 2, 2)], [(0, 0, 3, 2), (5, 0, 7, 2), (0, 2, 12, 2)])
        self.assert_panels(12, 4, [(3, 2, 2, 2)], [(0, 0, 12, 2), (0, 2, 3, 2), (5, 2, 7, 2)])

    def test_openings_at_the_ends(self):
        self.assert_panels(12, 4, [(0, 1, 2, 2)], [(0, 0, 12, 1), (2, 1, 10, 2), (0, 3, 12, 1)])
        self.assert_panels(12, 4, [(9, 1, 3, 2)], [(0, 0, 12, 1), (0, 1, 9, 2), (0, 3, 12, 1)])
        self.assert_panels(12, 2, [(0, 0, 1, 2), (11, 0, 1, 2)], [(1, 0, 10, 2)])

    def test_a_course_without_a_stretch(self):
        self.assert_panels(12, 4, [(0, 1, 12, 1)], [(0, 0, 12, 1), (0, 2, 12, 2)])
        self.assert_panels(12, 4, [(0, 0, 12, 1)], [(0, 1, 12, 3)])
        self.assert_panels(12, 4, [(0, 3, 12, 1)], [(0, 0, 12, 3)])
        self.assert_panels(12, 4, [(0, 1, 5, 1), (5, 1, 7, 1)], [(0, 0, 12, 1), (0, 2, 12, 2)])
        self.assert_panels(12, 4, [(0, 0, 12, 4)], [])

    def test_openings_that_touch_leave_no_stretch_between(self):
        self.assert_panels(12, 1, [(2, 0, 3, 1), (5, 0, 2, 1)], [(0, 0, 2, 1), (7, 0, 5, 1)])
        self.assert_panels(12, 4, [(3, 0, 2, 1), (3, 1, 2, 3)], [(0, 0, 3, 4), (5, 0, 7, 4)])

    def test_openings_that_touch_at_a_corner(self):
        told = [(0, 0, 2, 1), (5, 0, 7, 1), (0, 1, 5, 1), (7, 1, 5, 1)]
        self.assert_panels(12, 2, [(2, 0, 3, 1), (5, 1, 2, 1)], told)

    def test_a_stretch_goes_on_beside_one_that_changes(self):
        told = [(0, 0, 2, 3), (3, 0, 9, 1), (3, 1, 4, 1), (8, 1, 4, 1), (3, 2, 9, 1)]
        self.assert_panels(12, 3, [(2, 0, 1, 3), (7, 1, 1, 1)], told)

    def test_a_stretch_that_comes_again_is_another_panel(self):
        told = [(0, 0, 4, 1), (5, 0, 7, 1), (0, 1, 12, 1), (0, 2, 4, 1), (5, 2, 7, 1)]
        self.assert_panels(12, 3, [(4, 0, 1, 1), (4, 2, 1, 1)], told)

    def test_a_stretch_of_other_length_or_beginning_is_another_panel(self):
        self.assert_panels(6, 2, [(5, 0, 1, 1), (4, 1, 2, 1)], [(0, 0, 5, 1), (0, 1, 4, 1)])
        self.assert_panels(6, 2, [(0, 0, 1, 1), (0, 1, 2, 1)], [(1, 0, 5, 1), (2, 1, 4, 1)])

    def test_ends_don_t_matter(self):
        openings = [(3, 1, 2, 2)]
        self.assertEqual(panels(wall_text(12, 4, openings, (1, 2, 1))), panels(wall_text(12, 4, openings)))

    def test_refusals_stand_alone(self):
        for text in no_walls():
            self.assertEqual(panels(text), [-6, 0, 0], bytes(text[:99]))
        for text in too_long_texts():
            self.assertEqual(panels(text), [-1, 0, 0], len(text))


class Covering(unittest.TestCase):

    def test_panels_cover_the_wall_and_are_as_large_as_can_be(self):
        for length, height, openings in some_walls(400):
            text = wall_text(length, height, openings)
            told = panels_in(panels(text))
            closed = places((0, 0, length, height)).difference(*map(places, openings))
            with self.subTest(length=length, height=height, openings=openings):
                self.assertEqual(sorted(place for panel in told for place in places(panel)), sorted(closed))
                self.assertEqual(told, sorted(told, key=lambda panel: (panel[1], panel[0])))
                self.assertEqual(size(text)[8], len(told))
                for panel in told:
                    self.assert_whole(panel, closed)

    def assert_whole(self, panel, closed):
        x, y, long, courses = panel
        for course in range(y, y + courses):
            self.assertEqual(stretch_about(closed, x, course), (x, long))
        for course in (y - 1, y + courses):
            if (x, course) in closed:
                self.assertNotEqual(stretch_about(closed, x, course), (x, long))


if __name__ == "__main__":
    unittest.main()
