"""Call 12, fills: a site filled, each wall by itself."""

import unittest

from tests.support import (
    Bond, Wall, as_bytes, bond_text, draw_again, fill_answer, no_bonds, no_walls, site_text, some_bonds, some_sites,
    text_of_wall, too_long_texts)
from wallbonds.sites import check, fill, fills

PLAIN = Bond(1, 0, "", ("SH",))
ANY = Bond(1, 2, "SHTBC", ("SH", "HS"))
TURN = Wall(6, 2, [], (1, 2, 0))


def a_wall(length, height, *openings, ends=(0, 0, 0)):
    return Wall(length, height, list(openings), ends)


class Fills(unittest.TestCase):

    def assert_drawn(self, bond, walls, corners, *lines):
        told = fill_answer("".join(line + "\n" for line in lines))
        self.assertEqual(fills(bond_text(bond), site_text(walls, corners)), told)

    def assert_not_filled(self, bond, walls, corners, wall, panel):
        self.assertEqual(fills(bond_text(bond), site_text(walls, corners)), [-3, 2, wall, panel, 0])

    def test_one_wall(self):
        self.assert_drawn(PLAIN, [TURN], [], "H-S---", "S---H-")

    def test_walls_of_several_heights_one_behind_another(self):
        walls = [TURN, a_wall(4, 1), a_wall(6, 3, ends=(2, 0, 0))]
        self.assert_drawn(PLAIN, walls, [], "H-S---", "S---H-", "S---", "H-S---", "S---H-", "H-S---")

    def test_walls_joined_at_corners(self):
        walls = [TURN, a_wall(6, 2, (4, 1, 2, 1), ends=(2, 0, 0))]
        self.assert_drawn(PLAIN, walls, [(0, 0, 1, 0)], "H-S---", "S---H-", "S---..", "H-S---")

    def test_the_first_wall_that_cannot_be_filled(self):
        self.assert_not_filled(PLAIN, [a_wall(1, 1)], [], 0, 0)
        self.assert_not_filled(PLAIN, [TURN, a_wall(3, 1)], [], 1, 0)
        self.assert_not_filled(PLAIN, [TURN, a_wall(1, 1), a_wall(1, 1), TURN], [], 1, 0)
        self.assert_not_filled(PLAIN, [TURN, TURN, TURN, a_wall(9, 2, (4, 0, 2, 1))], [], 3, 1)
        self.assert_not_filled(PLAIN, [TURN, a_wall(9, 3, (0, 0, 9, 1), (4, 1, 3, 1), (5, 2, 4, 1))], [], 1, 2)

    def test_sites_of_all_sizes(self):
        filled = 0
        for bond, (walls, corners) in zip(list(some_bonds(150, seed=81)) + [ANY] * 150, some_sites(300, seed=82)):
            drawings = [draw_again(bond, wall) for wall in walls]
            wrong = [(number, panel) for number, panel in enumerate(drawings) if isinstance(panel, int)]
            told = [-3, 2, *wrong[0], 0] if wrong else fill_answer("".join(drawings))
            self.assertEqual(fills(bond_text(bond), site_text(walls, corners)), told, (bond, walls, corners))
            filled += not wrong
        self.assertGreater(filled, 30)

    def test_each_drawing_is_what_fill_gives_and_is_judged_whole(self):
        for walls, corners in some_sites(60, seed=83):
            answers = [fill(bond_text(ANY), text_of_wall(wall)) for wall in walls]
            if all(answer[0] == 0 for answer in answers):
                together = [byte for answer in answers for byte in answer[3:]]
                self.assertEqual(fills(bond_text(ANY), site_text(walls, corners)), [0, 0, len(together)] + together)
                for wall, answer in zip(walls, answers):
                    self.assertGreaterEqual(check(bond_text(ANY), text_of_wall(wall), answer[3:])[0], 0)

    def test_the_greatest_sites(self):
        courses = tuple("SHHSSHSH"[k:] + "SHHSSHSH"[:k] for k in range(8))
        bond = bond_text(Bond(1, 2, "SHTBC", courses))
        ring = [(0, 0, 3, 1), (0, 1, 1, 0), (1, 1, 2, 0), (2, 1, 3, 0)]
        answer = fills(bond, site_text([a_wall(32, 8, ends=(1, 2, 0))] * 4, ring))
        self.assertEqual(answer[:3], [0, 0, 4 * 8 * 33])


class Refused(unittest.TestCase):

    def test_texts_that_are_none(self):
        right = bond_text(PLAIN), site_text([TURN] * 2, [(0, 0, 1, 1)])
        self.assertEqual(fills(*right)[0], 0)
        for bond, line, kind in no_bonds():
            self.assertEqual(fills(bond, right[1]), [-6, 0, 0])
        for site in no_walls() + [right[1][:-1], right[1] * 2, right[1] + as_bytes("x")]:
            self.assertEqual(fills(right[0], site), [-6, 0, 0])
            self.assertEqual(fills([], site), [-6, 0, 0])

    def test_too_long_comes_first(self):
        right = bond_text(PLAIN), site_text([TURN] * 2, [(0, 0, 1, 1)])
        for text in too_long_texts():
            for bond in (right[0], [], text):
                self.assertEqual(fills(bond, text), [-1, 0, 0])
            for site in (right[1], [], text, site_text([a_wall(1, 1)], [])):
                self.assertEqual(fills(text, site), [-1, 0, 0])

    def test_a_text_that_is_none_comes_before_a_wall_that_cannot_be_filled(self):
        cannot = site_text([a_wall(1, 1)], [])
        self.assertEqual(fills(bond_text(PLAIN), cannot), [-3, 2, 0, 0, 0])
        self.assertEqual(fills(bond_text(PLAIN)[:-1], cannot), [-6, 0, 0])
        self.assertEqual(fills(bond_text(PLAIN), cannot[:-1]), [-6, 0, 0])


if __name__ == "__main__":
    unittest.main()
