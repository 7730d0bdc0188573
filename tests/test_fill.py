"""Calls 5 and 6, fill and counts: a wall filled, its drawing and its pieces."""

import itertools
import unittest

from tests.support import (
    Bond, Wall, bond_text, draw_again, draw_row, fill_answer, filling_order, joints_of, no_bonds, no_walls,
    rows_of_course, some_bonds, some_filled, text_of_wall, too_long_texts, too_near, wall_text)
from wallbonds.sites import counts, fill

RUNNING = Bond(2, 1, "B", ("S",))
EIGHT = Bond(1, 0, "", ("SSHSHHSH",))
QUARTERS = Bond(1, 1, "C", ("S",))
SMALL = ((3, 2, (0, 0)), (5, 2, (0, 0)), (6, 2, (1, 0)), (5, 3, (0, 0)), (8, 2, (0, 2)))


def a_wall(length, height, *openings, ends=(0, 0, 0)):
    return Wall(length, height, list(openings), ends)


class FillCase(unittest.TestCase):

    def assert_drawn(self, bond, wall, *lines):
        self.assert_drawing(bond, wall, "".join(line + "\n" for line in lines))

    def assert_drawing(self, bond, wall, drawing):
        self.assertEqual(fill(bond_text(bond), text_of_wall(wall)), fill_answer(drawing), (bond, wall, drawing))
        numbers = [drawing.count(letter) for letter in "SHTBC"]
        self.assertEqual(counts(bond_text(bond), text_of_wall(wall)), [0, 5] + numbers + [0], (bond, wall))

    def assert_row(self, bond, length, row):
        self.assert_drawn(bond, a_wall(length, 1), draw_row(row))

    def assert_not_filled(self, bond, wall, panel):
        for call in (fill, counts):
            self.assertEqual(call(bond_text(bond), text_of_wall(wall)), [-3, 1, panel, 0], (bond, wall))

    def assert_as_told_again(self, bond, wall):
        told = draw_again(bond, wall)
        if isinstance(told, int):
            self.assert_not_filled(bond, wall, told)
        else:
            self.assert_drawing(bond, wall, told)
        return told


class Courses(FillCase):

    def test_the_uppermost_is_drawn_first(self):
        self.assert_drawn(Bond(1, 0, "", ("SH", "HS")), a_wall(6, 2, ends=(1, 0, 0)), "H-S---", "S---H-")
        self.assert_drawn(RUNNING, a_wall(8, 3), "S---S---", "B-S---B-", "S---S---")

    def test_each_piece(self):
        for letter, length in (("S", 4), ("H", 2), ("T", 3), ("B", 2), ("C", 1)):
            self.assert_drawn(Bond(1, 1, letter, ("S",)), a_wall(length, 2), *[draw_row(letter)] * 2)

    def test_each_has_the_pattern_of_its_number(self):
        bond = Bond(1, 0, "", ("S", "H", "S"))
        self.assert_drawn(bond, a_wall(4, 8), "H-H-", "S---", "S---", "H-H-", "S---", "S---", "H-H-", "S---")
        self.assert_drawn(bond, a_wall(4, 3, (0, 0, 4, 1)), "S---", "H-H-", "....")

    def test_a_pattern_of_eight_letters_begins_anywhere(self):
        self.assert_row(EIGHT, 24, "SSHSHHSH")
        self.assert_row(EIGHT, 32, "SSHSHHSHSS")
        self.assert_drawn(EIGHT, a_wall(24, 1, ends=(2, 2, 0)), draw_row("HSHSSHSH"))
        self.assert_drawn(EIGHT, a_wall(24, 1, ends=(2, 1, 0)), draw_row("HSSHSHHS"))
        self.assert_not_filled(EIGHT, a_wall(23, 1), 0)

    def test_a_pattern_runs_from_left_to_right(self):
        self.assert_drawn(Bond(1, 0, "", ("SSHSHH",)), a_wall(18, 1, ends=(2, 1, 0)), draw_row("HSHHSS"))

    def test_most_made_up(self):
        for length, row in ((4, "S"), (5, None), (8, "SS")):
            if row is None:
                self.assert_not_filled(Bond(1, 0, "", ("S",)), a_wall(length, 1), 0)
            else:
                self.assert_row(Bond(1, 0, "", ("S",)), length, row)
        for length, row in ((1, "C"), (2, "CC"), (5, "SC"), (6, "CSC"), (8, "SS"), (10, "CSSC")):
            self.assert_row(QUARTERS, length, row)
        for length in (3, 7, 11):
            self.assert_not_filled(QUARTERS, a_wall(length, 1), 0)
        for length, row in ((3, "CCC"), (4, "S"), (6, "SCC"), (7, "CSCC"), (8, "SS"), (31, "CSSSSSSSCC")):
            self.assert_row(Bond(1, 2, "C", ("S",)), length, row)

    def test_made_up_at_both_ends_and_nothing_between(self):
        self.assert_row(Bond(1, 1, "TC", ("S",)), 6, "TT")
        self.assert_row(Bond(1, 2, "T", ("S",)), 12, "SSS")
        self.assert_row(Bond(1, 2, "T", ("H",)), 9, "HHHT")
        self.assert_row(Bond(1, 2, "T", ("HSSSSSSS",)), 9, "SHT")


class Ends(FillCase):

    def test_side_and_end(self):
        bond = Bond(1, 0, "", ("SH",))
        self.assert_drawn(bond, a_wall(6, 3, ends=(1, 0, 0)), "S---H-", "H-S---", "S---H-")
        self.assert_drawn(bond, a_wall(6, 3, ends=(2, 0, 0)), "H-S---", "S---H-", "H-S---")
        self.assert_drawn(bond, a_wall(6, 3, ends=(0, 1, 0)), "H-S---", "S---H-", "H-S---")
        self.assert_drawn(bond, a_wall(6, 3, ends=(0, 2, 0)), "S---H-", "H-S---", "S---H-")
        self.assert_drawn(bond, a_wall(6, 3, ends=(1, 2, 0)), "S---H-", "H-S---", "S---H-")
        self.assert_not_filled(bond, a_wall(6, 3, ends=(1, 1, 0)), 0)

    def test_one_piece_at_both_ends(self):
        self.assert_drawn(Bond(1, 0, "", ("S",)), a_wall(4, 1, ends=(1, 1, 0)), "S---")
        self.assert_not_filled(Bond(1, 0, "", ("S", "H")), a_wall(4, 1, ends=(1, 2, 0)), 0)

    def test_a_half_is_no_end(self):
        bond = Bond(1, 1, "HB", ("S",))
        self.assert_drawn(bond, a_wall(6, 1, ends=(2, 0, 0)), "H-S---")
        self.assert_not_filled(Bond(1, 1, "B", ("S",)), a_wall(6, 1, ends=(2, 0, 0)), 0)

    def test_reveals(self):
        bond = Bond(1, 0, "", ("SH",))
        self.assert_drawn(bond, a_wall(14, 1, (6, 0, 2, 1), ends=(1, 1, 2)), "S---H-..H-S---")
        self.assert_drawn(bond, a_wall(14, 1, (6, 0, 2, 1), ends=(0, 0, 1)), "H-S---..S---H-")
        self.assert_drawn(bond, a_wall(14, 2, (6, 0, 2, 2), ends=(0, 0, 1)), "S---H-..H-S---", "H-S---..S---H-")
        self.assert_drawn(bond, a_wall(10, 1, (0, 0, 2, 1), (8, 0, 2, 1), ends=(2, 1, 0)), "..S---H-..")
        self.assert_not_filled(bond, a_wall(10, 1, (0, 0, 2, 1), (8, 0, 2, 1), ends=(0, 0, 1)), 0)

    def test_by_the_wall_s_courses(self):
        bond = Bond(1, 0, "", ("SH",))
        self.assert_drawn(bond, a_wall(6, 2, (0, 0, 6, 1), ends=(1, 0, 0)), "H-S---", "......")
        self.assert_drawn(bond, a_wall(6, 2, (0, 0, 6, 1), ends=(2, 0, 0)), "S---H-", "......")


class Floors(FillCase):

    def test_a_joint_below_the_left_side_and_the_right_side(self):
        for openings in ([(0, 1, 4, 1)], [(4, 1, 4, 1)]):
            self.assert_not_filled(Bond(3, 0, "", ("S", "H")), a_wall(8, 2, *openings), 1)
        self.assert_drawn(Bond(2, 0, "", ("S", "H")), a_wall(8, 2, (0, 1, 4, 1)), "....H-H-", "S---S---")
        self.assert_drawn(Bond(2, 0, "", ("S", "H")), a_wall(8, 2, (4, 1, 4, 1)), "H-H-....", "S---S---")

    def test_a_joint_outside_doesn_t_matter(self):
        bond = Bond(3, 0, "", ("S", "H"))
        self.assert_drawn(bond, a_wall(9, 2, (8, 0, 1, 1), (0, 1, 5, 1)), ".....H-H-", "S---S---.")
        self.assert_drawn(bond, a_wall(9, 2, (0, 0, 1, 1), (4, 1, 5, 1)), "H-H-.....", ".S---S---")

    def test_a_reveal_below_is_no_joint(self):
        self.assert_drawn(Bond(3, 0, "", ("S",)), a_wall(8, 2, (4, 0, 4, 1)), "S---S---", "S---....")
        self.assert_drawn(Bond(3, 0, "", ("S",)), a_wall(8, 2, (0, 0, 4, 1)), "S---S---", "....S---")

    def test_joints_of_several_panels(self):
        above = "H-S---S---S---T--"
        self.assert_drawn(Bond(1, 1, "HTC", ("S",)), a_wall(17, 2, (8, 0, 1, 1)), above, "S---S---.S---S---")
        self.assert_not_filled(QUARTERS, a_wall(17, 2, (8, 0, 1, 1)), 2)
        self.assert_drawn(QUARTERS, a_wall(17, 2, (0, 0, 9, 1)), "S---S---S---S---C", ".........S---S---")
        self.assert_drawn(QUARTERS, a_wall(17, 2, (8, 0, 9, 1)), "CS---S---S---S---", "S---S---.........")

    def test_beside_an_opening_and_above_it(self):
        wall = a_wall(12, 4, (4, 1, 2, 2))
        self.assert_drawn(RUNNING, wall, "B-S---S---B-", "S---..B-S---", "S---..S---B-", "S---S---S---")

    def test_panels_side_by_side_that_begin_in_other_courses(self):
        bond = Bond(1, 1, "H", ("S",))
        wall = a_wall(13, 3, (8, 0, 1, 3), (0, 1, 2, 1))
        self.assert_drawn(bond, wall, "S---S---.S---", "..S---H-.S---", "S---S---.S---")


class Told(FillCase):

    def test_fillings_that_differ_only_in_cuts(self):
        self.assert_row(Bond(1, 1, "HB", ("S",)), 6, "SH")
        self.assert_drawn(Bond(2, 1, "HB", ("S",)), a_wall(8, 2), "H-S---H-", "S---S---")

    def test_fillings_that_differ_only_in_pieces(self):
        self.assert_row(Bond(1, 2, "SHTBC", ("H",)), 8, "SS")
        self.assert_row(Bond(1, 1, "HC", ("H",)), 5, "HHC")
        self.assert_row(Bond(1, 2, "SC", ("H",)), 5, "SC")

    def test_fillings_that_differ_only_in_order(self):
        self.assert_row(Bond(1, 0, "", ("HS",)), 6, "SH")
        self.assert_row(Bond(1, 1, "TC", ("H",)), 6, "HHH")
        for makes, length in (("HT", 5), ("TB", 5), ("BC", 3)):
            self.assert_row(Bond(1, 1, makes, ("S",)), length, makes)
        self.assert_drawn(Bond(1, 1, "TC", ("S",)), a_wall(8, 2), "T--S---C", "S---S---")
        self.assert_drawn(Bond(2, 1, "TC", ("S",)), a_wall(8, 2), "CS---T--", "T--S---C")

    def test_fewest_cuts_in_all_not_below(self):
        self.assert_drawn(Bond(2, 2, "SB", ("H", "S")), a_wall(8, 1), "S---S---")
        self.assert_drawn(Bond(2, 2, "SB", ("H", "S")), a_wall(8, 2), "S---S---", "H-S---B-")

    def test_fewest_pieces_in_all_not_below(self):
        self.assert_drawn(Bond(2, 2, "TC", ("S",)), a_wall(8, 1), "S---S---")
        self.assert_drawn(Bond(2, 2, "TC", ("S",)), a_wall(8, 2), "CS---T--", "T--S---C")

    def test_a_panel_is_filled_without_regard_to_those_above(self):
        wall = a_wall(12, 2, (8, 0, 4, 1))
        self.assert_not_filled(Bond(2, 1, "TC", ("S",)), wall, 1)
        self.assert_drawn(Bond(1, 1, "TC", ("S",)), wall, "T--S---S---C", "S---S---....")

    def test_laps(self):
        bond = Bond(1, 1, "TC", ("S",))
        self.assert_drawn(bond, a_wall(8, 2), "T--S---C", "S---S---")
        self.assert_drawn(bond._replace(lap=2), a_wall(8, 2), "CS---T--", "T--S---C")
        self.assert_not_filled(bond._replace(lap=3), a_wall(8, 2), 0)
        self.assert_drawn(bond._replace(lap=3), a_wall(5, 3), "S---C", "CS---", "S---C")

    def test_the_first_panel_that_cannot_be_filled(self):
        bond = Bond(1, 0, "", ("S",))
        self.assert_not_filled(bond, a_wall(5, 1), 0)
        self.assert_not_filled(bond, a_wall(12, 1, (4, 0, 1, 1)), 1)
        self.assert_not_filled(bond, a_wall(14, 1, (4, 0, 1, 1), (7, 0, 1, 1)), 1)
        self.assert_not_filled(bond, a_wall(12, 2, (4, 0, 4, 1), (5, 1, 1, 1)), 2)

    def test_a_wall_that_is_open_all_over(self):
        self.assert_drawn(RUNNING, a_wall(3, 2, (0, 0, 3, 2)), "...", "...")


class ToldAgain(FillCase):

    def test_the_first_of_all_fillings_of_small_panels(self):
        filled = 0
        for bond in some_bonds(150, seed=21):
            for length, height, ends in SMALL:
                rows = [rows_of_course(bond, course, length, ends) for course in range(height)]
                fillings = [filling for filling in itertools.product(*rows) if not any(
                    too_near(joints_of(row), joints_of(below), bond.lap)
                    for below, row in zip(filling, filling[1:]))]
                wall = a_wall(length, height, ends=ends + (0,))
                if fillings:
                    filled += 1
                    first = min(fillings, key=filling_order)
                    self.assert_drawn(bond, wall, *[draw_row(row) for row in reversed(first)])
                else:
                    self.assert_not_filled(bond, wall, 0)
        self.assertGreater(filled, 200)

    def test_small_walls_with_openings(self):
        told = [self.assert_as_told_again(bond, wall) for bond, wall in some_filled(700, 10, 5)]
        self.assertGreater(len([drawing for drawing in told if isinstance(drawing, str)]), 150)
        self.assertGreater(len([drawing for drawing in told if isinstance(drawing, int) and drawing > 0]), 50)

    def test_large_walls_with_openings(self):
        told = [self.assert_as_told_again(bond, wall) for bond, wall in some_filled(120, 32, 8)]
        self.assertGreater(len([drawing for drawing in told if isinstance(drawing, str)]), 10)


class Greatest(FillCase):

    def test_walls_and_bonds_of_the_greatest_size(self):
        rising = tuple("SHHSSHSH"[k:] + "SHHSSHSH"[:k] for k in range(8))
        uneven = tuple("S" * k + "H" * (8 - k) for k in range(8))
        for courses in (rising, uneven, ("SSSSSSSS",) * 8, ("HHHHHHHH",) * 8, ("S", "H")):
            for lap in (1, 2, 3):
                for length in (31, 32):
                    bond = bond_text(Bond(lap, 2, "SHTBC", courses))
                    answer = fill(bond, wall_text(length, 8, []))
                    if lap == 1 or answer[0] == 0:
                        self.assertLess(lap, 3)
                        self.assertEqual(answer[:3], [0, 0, 8 * length + 8])
                    else:
                        self.assertEqual(answer, [-3, 1, 0, 0])

    def test_the_filling_told_of_the_greatest(self):
        bonds = Bond(1, 2, "SHTBC", ("SHSSSHSS", "SSSSSSHS", "S", "HSSSSSSS")), Bond(2, 2, "SHTBC", ("S",))
        walls = a_wall(32, 8), a_wall(31, 8), a_wall(32, 8, ends=(1, 1, 0)), a_wall(31, 8, ends=(1, 2, 0))
        told = [self.assert_as_told_again(bond, wall) for bond in bonds for wall in walls]
        self.assertGreater(len([drawing for drawing in told if isinstance(drawing, str)]), 5)

    def test_eight_openings(self):
        bond = Bond(1, 2, "SHTBC", ("SHHSSHSH", "HSSHHSHS"))
        for openings in ([(4 * k + 1, k, 2, 1) for k in range(8)], [(4 * k, 1, 1, 6) for k in range(8)]):
            self.assert_as_told_again(bond, a_wall(32, 8, *openings))


class Refused(FillCase):

    def test_one_text_that_is_none(self):
        right = bond_text(RUNNING), wall_text(8, 2, [])
        for call in (fill, counts):
            self.assertEqual(call(*right)[0], 0)
            for bond, line, kind in no_bonds():
                self.assertEqual(call(bond, right[1]), [-6, 0, 0], bytes(bond[:80]))
            for wall in no_walls():
                self.assertEqual(call(right[0], wall), [-6, 0, 0], bytes(wall[:80]))

    def test_both_texts_none(self):
        for call in (fill, counts):
            for wall in no_walls():
                self.assertEqual(call([], wall), [-6, 0, 0])
            self.assertEqual(call([10] * 4096, [10] * 4096), [-6, 0, 0])

    def test_too_long_comes_first(self):
        right = bond_text(RUNNING), wall_text(8, 2, [])
        for call in (fill, counts):
            for long in too_long_texts():
                for other in (right[0], [], [10] * 4096, long):
                    self.assertEqual(call(other, long), [-1, 0, 0])
                for other in (right[1], [], [10] * 4096, long):
                    self.assertEqual(call(long, other), [-1, 0, 0])

    def test_a_text_that_is_none_comes_before_a_panel_that_cannot_be_filled(self):
        for call in (fill, counts):
            self.assertEqual(call(bond_text(RUNNING), wall_text(1, 1, [])), [-3, 1, 0, 0])
            self.assertEqual(call(bond_text(RUNNING), wall_text(1, 1, [])[:-1]), [-6, 0, 0])
            self.assertEqual(call(bond_text(RUNNING)[:-1], wall_text(1, 1, [])), [-6, 0, 0])


if __name__ == "__main__":
    unittest.main()
