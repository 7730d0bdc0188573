"""Call 7, check: drawings that are whole and those that aren't (P4)."""

import itertools
import random
import unittest

from tests.support import (
    Bond, Wall, all_rows, as_bytes, bond_text, cuts_of, draw_again, draw_row, joints_of, judge_again, no_bonds,
    no_walls, panels_again, rows_of_course, some_filled, text_of_wall, too_long_texts, too_near, wall_text)
from wallbonds.sites import check

RUNNING = Bond(2, 1, "B", ("S",))
QUARTERS = Bond(1, 1, "C", ("S",))
ANY = Bond(1, 2, "SHTBC", ("SH",))


def a_wall(length, height, *openings, ends=(0, 0, 0)):
    return Wall(length, height, list(openings), ends)


class CheckCase(unittest.TestCase):

    def assert_check(self, bond, wall, drawing, answer):
        told = check(bond_text(bond), text_of_wall(wall), as_bytes(drawing))
        self.assertEqual(told, answer, (bond, wall, drawing))

    def assert_whole(self, bond, wall, lines, cuts):
        self.assert_check(bond, wall, "".join(line + "\n" for line in lines), [cuts, 0, 0])

    def assert_fault(self, bond, wall, lines, course, place, kind):
        self.assert_signs_fault(bond, wall, "".join(line + "\n" for line in lines), course, place, kind)

    def assert_signs_fault(self, bond, wall, drawing, course, place, kind):
        self.assert_check(bond, wall, drawing, [-5, 3, course, place, kind, 0])

    def assert_as_judged_again(self, bond, wall, drawing):
        told = judge_again(bond, wall, drawing)
        self.assert_check(bond, wall, drawing, [told, 0, 0] if isinstance(told, int) else [-5, 3, *told, 0])
        return told


class Whole(CheckCase):

    def test_the_filling_told(self):
        self.assert_whole(RUNNING, a_wall(8, 3), ["S---S---", "B-S---B-", "S---S---"], 2)
        self.assert_whole(Bond(1, 0, "", ("SH",)), a_wall(6, 1), ["S---H-"], 0)

    def test_others_are_whole_too(self):
        self.assert_whole(Bond(1, 0, "", ("SH",)), a_wall(6, 1), ["H-S---"], 0)
        self.assert_whole(RUNNING, a_wall(8, 3), ["B-S---B-", "S---S---", "B-S---B-"], 4)
        self.assert_whole(ANY, a_wall(8, 1), ["CCS---CC"], 4)
        self.assert_whole(ANY, a_wall(8, 1), ["T--B-T--"], 3)

    def test_cut_pieces_are_counted_in_all_panels(self):
        lines = ["B-S---S---B-", "S---..B-S---", "S---..S---B-", "S---S---S---"]
        self.assert_whole(RUNNING, a_wall(12, 4, (4, 1, 2, 2)), lines, 4)

    def test_a_wall_that_is_open_all_over(self):
        self.assert_whole(RUNNING, a_wall(3, 2, (0, 0, 3, 2)), ["...", "..."], 0)

    def test_the_filling_told_of_walls_of_all_sizes(self):
        filled = 0
        for bond, wall in some_filled(500, 20, 8, seed=41):
            drawing = draw_again(bond, wall)
            if isinstance(drawing, str):
                filled += 1
                self.assert_check(bond, wall, drawing, [cuts_of(drawing), 0, 0])
        self.assertGreater(filled, 80)


class NotTheLines(CheckCase):

    def setUp(self):
        self.wall = a_wall(8, 3)
        self.lines = ["S---S---", "B-S---B-", "S---S---"]
        self.drawing = "S---S---\nB-S---B-\nS---S---\n"

    def test_no_bytes(self):
        self.assert_signs_fault(RUNNING, self.wall, "", 2, 0, 1)
        self.assert_signs_fault(RUNNING, a_wall(1, 1), "", 0, 0, 1)

    def test_a_byte_that_is_none_of_a_drawing_s(self):
        for number in range(27):
            course, place = 2 - number // 9, number % 9
            for sign in " sXA\0\xff,/\r" + ("\n" if place < 8 else "S-."):
                drawing = self.drawing[:number] + sign + self.drawing[number + 1:]
                self.assert_signs_fault(RUNNING, self.wall, drawing, course, place, 1)

    def test_every_byte(self):
        for byte in range(256):
            answer = [-5, 3, 0, 0, 2 if chr(byte) in "-." else 1, 0]
            if chr(byte) in "SHTBC":
                answer = [1, 0, 0] if chr(byte) == "C" else [-5, 3, 0, 1, 2, 0]
            told = check(bond_text(QUARTERS), wall_text(1, 1, []), [byte, 10])
            self.assertEqual(told, answer, byte)

    def test_a_drawing_that_ends_too_soon(self):
        for number in range(27):
            self.assert_signs_fault(RUNNING, self.wall, self.drawing[:number], 2 - number // 9, number % 9, 1)

    def test_a_drawing_that_goes_on(self):
        for more in ("\n", "S", "S---S---\n", "x", ".", "\0"):
            self.assert_signs_fault(RUNNING, self.wall, self.drawing + more, 0, 8, 1)

    def test_a_line_too_short_or_too_long(self):
        self.assert_fault(RUNNING, self.wall, ["S---S--", "B-S---B-", "S---S---"], 2, 7, 1)
        self.assert_fault(RUNNING, self.wall, ["S---S---", "", "S---S---"], 1, 0, 1)
        self.assert_fault(RUNNING, self.wall, ["S---S----", "B-S---B-", "S---S---"], 2, 8, 1)
        self.assert_fault(RUNNING, self.wall, ["S---S---", "B-S---B-", "S---S---S---"], 0, 8, 1)

    def test_too_few_lines_and_too_many(self):
        self.assert_fault(RUNNING, self.wall, self.lines[:2], 0, 0, 1)
        self.assert_fault(RUNNING, self.wall, self.lines[:1], 1, 0, 1)
        self.assert_fault(RUNNING, self.wall, self.lines + self.lines[:1], 0, 8, 1)

    def test_it_comes_before_what_is_wrong_below_it(self):
        self.assert_fault(RUNNING, self.wall, ["S---S---", "B-S---Bx", "--------"], 1, 7, 1)
        self.assert_fault(RUNNING, self.wall, ["--------", "S---S---", "S---S--x"], 0, 7, 1)


class NotThePieces(CheckCase):

    def test_open_or_not(self):
        wall = a_wall(12, 1, (4, 0, 4, 1))
        self.assert_whole(RUNNING, wall, ["S---....S---"], 0)
        self.assert_fault(RUNNING, wall, ["S---.---S---"], 0, 5, 2)
        self.assert_fault(RUNNING, wall, ["S---S---S---"], 0, 4, 2)
        self.assert_fault(RUNNING, wall, ["S---...CS---"], 0, 7, 2)
        self.assert_fault(RUNNING, wall, ["S---.....---"], 0, 8, 2)
        self.assert_fault(RUNNING, wall, ["....S---...."], 0, 0, 2)
        self.assert_fault(RUNNING, wall, ["S-------S---"], 0, 4, 2)

    def test_a_dash_where_a_piece_must_begin(self):
        self.assert_fault(RUNNING, a_wall(8, 1), ["----S---"], 0, 0, 2)
        self.assert_fault(RUNNING, a_wall(8, 1), ["S-------"], 0, 4, 2)
        self.assert_fault(ANY, a_wall(8, 1), ["CS---C--"], 0, 6, 2)
        self.assert_fault(ANY, a_wall(8, 1, (2, 0, 2, 1)), ["H-..-S--"], 0, 4, 2)

    def test_a_letter_within_a_piece(self):
        self.assert_fault(RUNNING, a_wall(8, 1), ["S--SS---"], 0, 3, 2)
        self.assert_fault(RUNNING, a_wall(8, 1), ["SSSSSSSS"], 0, 1, 2)
        self.assert_fault(ANY, a_wall(2, 1), ["HC"], 0, 1, 2)
        self.assert_fault(ANY, a_wall(3, 1), ["T-C"], 0, 2, 2)

    def test_a_dot_within_a_piece(self):
        self.assert_fault(RUNNING, a_wall(4, 1), ["S.--"], 0, 1, 2)
        self.assert_fault(RUNNING, a_wall(4, 1), ["S--."], 0, 3, 2)

    def test_an_open_place_within_a_piece(self):
        self.assert_fault(RUNNING, a_wall(8, 1, (3, 0, 2, 1)), ["S--..T--"], 0, 3, 2)
        self.assert_fault(RUNNING, a_wall(8, 1, (3, 0, 2, 1)), ["S----T--"], 0, 3, 2)
        self.assert_fault(ANY, a_wall(8, 1, (3, 0, 2, 1)), ["H-H..T--"], 0, 3, 2)

    def test_the_wall_s_end_within_a_piece(self):
        self.assert_fault(RUNNING, a_wall(7, 1), ["S---S--"], 0, 7, 2)
        self.assert_fault(ANY, a_wall(1, 1), ["S"], 0, 1, 2)
        self.assert_fault(ANY, a_wall(32, 8), ["C" * 31 + "H"] * 8, 0, 32, 2)

    def test_by_courses_from_below_from_the_left(self):
        self.assert_fault(RUNNING, a_wall(8, 2), ["-S------", "S---S--S"], 0, 7, 2)
        self.assert_fault(RUNNING, a_wall(8, 2), ["-S------", "B-S---B-"], 1, 0, 2)
        self.assert_fault(RUNNING, a_wall(7, 2), ["-------", "S---S--"], 0, 7, 2)
        self.assert_fault(RUNNING, a_wall(8, 1), ["S.-S----"], 0, 1, 2)

    def test_it_comes_before_what_is_wrong_with_panels(self):
        self.assert_fault(RUNNING, a_wall(8, 2), ["S---S--.", "H-H-H-H-"], 1, 7, 2)


class NoFilling(CheckCase):

    def test_a_wrong_end(self):
        bond = Bond(1, 0, "", ("SH",))
        self.assert_fault(bond, a_wall(6, 1, ends=(1, 0, 0)), ["H-S---"], 0, 0, 3)
        self.assert_fault(bond, a_wall(6, 2, ends=(1, 0, 0)), ["S---H-", "S---H-"], 1, 0, 3)
        self.assert_fault(bond, a_wall(6, 1, ends=(0, 1, 0)), ["S---H-"], 0, 0, 3)
        self.assert_fault(bond, a_wall(6, 1, ends=(2, 0, 0)), ["S---H-"], 0, 0, 3)
        self.assert_fault(bond, a_wall(14, 1, (6, 0, 2, 1), ends=(0, 0, 1)), ["H-S---..H-S---"], 0, 8, 3)
        self.assert_fault(Bond(1, 1, "HB", ("S",)), a_wall(6, 1, ends=(2, 0, 0)), ["B-S---"], 0, 0, 3)
        self.assert_whole(Bond(1, 1, "HB", ("S",)), a_wall(6, 1, ends=(2, 0, 0)), ["H-S---"], 0)

    def test_a_row_that_does_not_keep_its_course(self):
        self.assert_fault(RUNNING, a_wall(8, 1), ["H-S---H-"], 0, 0, 3)
        self.assert_fault(RUNNING, a_wall(8, 1), ["B-B-S---"], 0, 0, 3)
        self.assert_fault(RUNNING, a_wall(12, 1), ["S---B-B-S---"], 0, 0, 3)
        self.assert_fault(RUNNING, a_wall(8, 1), ["CS---T--"], 0, 0, 3)
        self.assert_fault(Bond(1, 0, "", ("S", "H")), a_wall(4, 2), ["S---", "S---"], 1, 0, 3)
        self.assert_fault(Bond(1, 0, "", ("SSH",)), a_wall(8, 1), ["S---H-H-"], 0, 0, 3)
        self.assert_whole(Bond(1, 2, "SHTBC", ("SSSSSSSS",)), a_wall(8, 1), ["H-H-H-H-"], 0)
        self.assert_fault(Bond(1, 2, "SHTBC", ("SSSSSSSS",)), a_wall(10, 1), ["H-H-H-H-H-"], 0, 0, 3)

    def test_a_pattern_runs_from_left_to_right(self):
        bond = Bond(1, 0, "", ("SSHSHH",))
        for row in ("SSHSHH", "SHSHHS", "HSHHSS", "SHHSSH", "HHSSHS", "HSSHSH"):
            self.assert_whole(bond, a_wall(18, 1), [draw_row(row)], 0)
            self.assert_fault(bond, a_wall(18, 1), [draw_row(row[::-1])], 0, 0, 3)

    def test_a_joint_too_near_to_the_row_below(self):
        self.assert_fault(RUNNING, a_wall(8, 3), ["B-S---B-", "S---S---", "S---S---"], 1, 0, 3)
        self.assert_fault(RUNNING, a_wall(8, 3), ["S---S---", "S---S---", "B-S---B-"], 2, 0, 3)
        bond = Bond(3, 1, "TC", ("S",))
        self.assert_fault(bond, a_wall(8, 2), ["CS---T--", "T--S---C"], 1, 0, 3)
        self.assert_whole(bond._replace(lap=2), a_wall(8, 2), ["CS---T--", "T--S---C"], 4)

    def test_a_joint_too_near_to_the_floor_that_is_drawn(self):
        bond = Bond(3, 0, "", ("S", "H"))
        self.assert_fault(bond, a_wall(8, 2, (0, 1, 4, 1)), ["....H-H-", "S---S---"], 1, 4, 3)
        self.assert_fault(bond, a_wall(8, 2, (4, 1, 4, 1)), ["H-H-....", "S---S---"], 1, 0, 3)
        self.assert_whole(bond._replace(lap=2), a_wall(8, 2, (4, 1, 4, 1)), ["H-H-....", "S---S---"], 0)
        self.assert_fault(QUARTERS, a_wall(9, 2, (8, 0, 1, 1)), ["S---S---C", "S---S---."], 1, 0, 3)
        self.assert_whole(QUARTERS, a_wall(9, 2, (8, 0, 1, 1)), ["CS---S---", "S---S---."], 1)

    def test_a_joint_too_near_to_one_of_another_panel(self):
        wall = a_wall(17, 2, (8, 0, 1, 1))
        self.assert_fault(QUARTERS, wall, ["S---S---S---S---C", "S---S---.S---S---"], 1, 0, 3)
        self.assert_fault(QUARTERS, wall, ["CS---S---S---S---", "S---S---.S---S---"], 1, 0, 3)

    def test_a_reveal_below_is_no_joint(self):
        self.assert_whole(Bond(3, 0, "", ("S",)), a_wall(8, 2, (4, 0, 4, 1)), ["S---S---", "S---...."], 0)

    def test_by_panels_in_order_and_their_first_row(self):
        wall = a_wall(9, 3, (4, 0, 1, 3))
        bond = Bond(1, 0, "", ("S",))
        self.assert_fault(bond, wall, ["H-H-.S---", "S---.S---", "S---.H-H-"], 2, 0, 3)
        self.assert_fault(bond, wall, ["H-H-.H-H-", "H-H-.S---", "S---.H-H-"], 1, 0, 3)
        self.assert_fault(bond, wall, ["S---.H-H-", "S---.H-H-", "S---.S---"], 1, 5, 3)


class Refused(CheckCase):

    def test_a_drawing_too_long(self):
        bond, wall = bond_text(RUNNING), wall_text(8, 1, [])
        self.assertEqual(check(bond, wall, as_bytes("S---S---\n") + [10] * 4087), [-5, 3, 0, 8, 1, 0])
        self.assertEqual(check(bond, wall, as_bytes("S---S---\n") + [10] * 4088), [-1, 0, 0])
        for drawing in ([0] * 4097, [45] * 6000):
            for other_bond in (bond, [], [0] * 4096):
                for other_wall in (wall, [], [0] * 4096):
                    self.assertEqual(check(other_bond, other_wall, drawing), [-1, 0, 0])

    def test_texts_too_long(self):
        for text in too_long_texts():
            for drawing in ([], as_bytes("S---S---\n")):
                self.assertEqual(check(text, wall_text(8, 1, []), drawing), [-1, 0, 0])
                self.assertEqual(check(bond_text(RUNNING), text, drawing), [-1, 0, 0])
                self.assertEqual(check([], text, drawing), [-1, 0, 0])
                self.assertEqual(check(text, [], drawing), [-1, 0, 0])

    def test_texts_that_are_none_come_before_the_drawing(self):
        for drawing in ([], as_bytes("S---S---\n"), [0] * 4096):
            for bond, line, kind in no_bonds():
                self.assertEqual(check(bond, wall_text(8, 1, []), drawing), [-6, 0, 0])
            for wall in no_walls():
                self.assertEqual(check(bond_text(RUNNING), wall, drawing), [-6, 0, 0])
            self.assertEqual(check([], [], drawing), [-6, 0, 0])

    def test_a_panel_that_cannot_be_filled_is_no_refusal(self):
        self.assert_fault(RUNNING, a_wall(1, 1), ["C"], 0, 0, 3)


class JudgedWhole(CheckCase):

    def whole_drawings(self, bond, wall):
        """All whole drawings of a wall that is one panel."""
        rows = [rows_of_course(bond, course, wall.length, wall.ends[:2]) for course in range(wall.height)]
        for filling in itertools.product(*rows):
            if not any(too_near(joints_of(row), joints_of(below), bond.lap)
                       for below, row in zip(filling, filling[1:])):
                yield "".join(draw_row(row) + "\n" for row in reversed(filling))

    def test_just_what_is_whole_of_all_drawings(self):
        bonds = (ANY, RUNNING, QUARTERS, Bond(2, 2, "HC", ("H", "S")), Bond(1, 0, "", ("H",)), Bond(3, 1, "TC", ("S",)))
        for bond in bonds:
            for wall in (a_wall(3, 1), a_wall(4, 1), a_wall(2, 2), a_wall(4, 1, ends=(1, 0, 0)), a_wall(1, 3)):
                whole = set(self.whole_drawings(bond, wall))
                for signs in itertools.product("SHTBC-.", repeat=wall.length * wall.height):
                    lines = ["".join(signs[k:k + wall.length]) for k in range(0, len(signs), wall.length)]
                    drawing = "".join(line + "\n" for line in lines)
                    told = check(bond_text(bond), text_of_wall(wall), as_bytes(drawing))
                    self.assertEqual(told[0], cuts_of(drawing) if drawing in whole else -5, (bond, wall, drawing))

    def test_drawings_changed_a_little(self):
        source = random.Random(43)
        for bond, wall in some_filled(300, 12, 4, seed=44):
            drawing = draw_again(bond, wall)
            if isinstance(drawing, str):
                for _ in range(30):
                    signs = list(drawing)
                    for _ in range(source.choice((1, 1, 2))):
                        signs[source.randrange(len(signs))] = source.choice("SHTBC-.\n ")
                    self.assert_as_judged_again(bond, wall, "".join(signs))

    def test_drawings_of_other_rows(self):
        source = random.Random(45)
        kinds = []
        for bond, wall in some_filled(500, 10, 4, seed=46):
            for _ in range(8):
                grid = ["." * wall.length] * wall.height
                for x, y, length, courses in panels_again(wall):
                    for course in range(y, y + courses):
                        rows = rows_of_course(bond, course, length, (0, 0)) if source.random() < 0.9 else None
                        row = draw_row(source.choice(rows or all_rows(length)))
                        grid[course] = grid[course][:x] + row + grid[course][x + length:]
                told = self.assert_as_judged_again(bond, wall, "".join(line + "\n" for line in reversed(grid)))
                kinds.append("whole" if isinstance(told, int) else told[2])
        self.assertEqual(set(kinds), {"whole", 3})
        self.assertGreater(kinds.count("whole"), 100)


if __name__ == "__main__":
    unittest.main()
