"""What is a bond's text, and the first fault of one that's none's: the calls tell of it with -6 alone."""

import unittest

from tests.support import Bond, PIECES, bond_text, no_bonds, text_of, wall_text
from wallbonds.bonds import read_bond
from wallbonds.refusals import TextFault
from wallbonds.sites import counts, fill

WALL = wall_text(4, 1, [])


class Right(unittest.TestCase):

    def assert_read(self, bond, name="b"):
        found = read_bond(bond_text(bond, name))
        self.assertEqual((found.lap, found.most), (bond.lap, bond.most))
        self.assertEqual("".join("SHTBC"[piece] for piece in found.makes), bond.makes)
        self.assertEqual(["".join("SH"[piece] for piece in row) for row in found.patterns], list(bond.courses))
        self.assertIn(fill(bond_text(bond, name), WALL)[0], (0, -3))

    def test_every_lap_and_most(self):
        for lap in (1, 2, 3):
            for most in (0, 1, 2):
                self.assert_read(Bond(lap, most, "SB" if most else "", ("SH",)))

    def test_every_choice_of_makes(self):
        for bits in range(1, 32):
            makes = "".join(letter for k, letter in enumerate(PIECES) if bits >> k & 1)
            self.assert_read(Bond(1, 1, makes, ("S",)))

    def test_one_course_and_eight_with_patterns_of_one_letter_and_eight(self):
        self.assert_read(Bond(1, 0, "", ("H",)))
        self.assert_read(Bond(1, 2, "SHTBC", tuple("SHSHSHSH"[k:] + "S" * k for k in range(8))), "z" * 15)

    def test_a_name_may_be_a_word_of_the_text(self):
        for name in ("bond", "course", "a"):
            self.assert_read(Bond(1, 0, "", ("S",)), name)


class Faults(unittest.TestCase):

    def test_first_line_and_first_kind(self):
        for text, line, kind in no_bonds():
            with self.subTest(text=bytes(text[:80])):
                with self.assertRaises(TextFault) as refused:
                    read_bond(text)
                self.assertEqual((refused.exception.line, refused.exception.kind), (line, kind))

    def test_the_calls_tell_of_none(self):
        for text, line, kind in no_bonds():
            self.assertEqual(fill(text, WALL), [-6, 0, 0], bytes(text[:80]))
            self.assertEqual(counts(text, WALL), [-6, 0, 0], bytes(text[:80]))

    def test_every_cut_of_a_text(self):
        whole = bond_text(Bond(1, 1, "SB", ("SH", "H")))
        for end in range(len(whole)):
            answer = fill(whole[:end], WALL)[0]
            self.assertEqual(answer, 0 if bytes(whole[:end]).endswith(b"course SH\n") else -6, end)

    def test_a_wall_s_text_is_no_bond_s(self):
        self.assertEqual(fill(WALL, WALL), [-6, 0, 0])
        self.assertEqual(fill(text_of(("bond b", "lap 1", "most 0", "course S")), WALL)[0], 0)


if __name__ == "__main__":
    unittest.main()
