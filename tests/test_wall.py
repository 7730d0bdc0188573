"""Call 1, wall: what is a wall's text, and the first fault of one that's none's (P1)."""

import unittest

from tests.support import HEAD, as_bytes, first_fault, head_with, some_walls, text_of, too_long_texts, wall_text
from wallbonds.sites import wall

EIGHT = tuple(f"open {x} 0 1 1" for x in range(8))


class WallCase(unittest.TestCase):

    def assert_openings(self, lines, count):
        self.assertEqual(wall(text_of(lines)), [count, 0, 0], lines)

    def assert_fault(self, lines, line, kind):
        self.assertEqual(wall(text_of(lines)), [-6, 2, line, kind, 0], lines)

    def assert_byte_fault(self, text, line, kind):
        self.assertEqual(wall(text), [-6, 2, line, kind, 0], bytes(text[:99]))


class Right(WallCase):

    def test_counts_the_openings(self):
        self.assert_openings(HEAD, 0)
        self.assert_openings(HEAD + ("open 3 1 2 2",), 1)
        self.assert_openings(HEAD + ("open 2 0 3 2", "open 7 0 2 1", "open 0 3 12 1"), 3)

    def test_bounds_that_still_hold(self):
        for number, line in ((0, "wall " + "z" * 15), (0, "wall z"), (1, "long 1"), (1, "long 32"),
                             (2, "high 1"), (2, "high 8")):
            self.assert_openings(head_with(number, line), 0)
        self.assert_openings(HEAD + EIGHT, 8)

    def test_a_name_may_be_a_word_of_the_text(self):
        for word in ("wall", "open", "free"):
            self.assert_openings(head_with(0, "wall " + word), 0)

    def test_each_word_at_each_end(self):
        for number, side in ((3, "left"), (4, "right"), (5, "reveal")):
            for end in ("free", "side", "end"):
                self.assert_openings(head_with(number, f"{side} {end}"), 0)

    def test_openings_at_the_wall_s_edges(self):
        for line in ("open 0 1 1 1", "open 11 1 1 1", "open 5 0 1 1", "open 5 3 1 1", "open 0 0 12 4",
                     "open 0 0 1 4", "open 0 0 12 1"):
            self.assert_openings(HEAD + (line,), 1)

    def test_openings_that_touch(self):
        self.assert_openings(HEAD + ("open 2 1 3 1", "open 5 1 2 1"), 2)
        self.assert_openings(HEAD + ("open 2 0 3 2", "open 2 2 3 1"), 2)
        self.assert_openings(HEAD + ("open 2 0 3 2", "open 5 2 3 1"), 2)
        self.assert_openings(HEAD + ("open 5 0 3 2", "open 2 1 3 3"), 2)

    def test_walls_of_all_sizes(self):
        for length, height, openings in some_walls(300):
            self.assertEqual(wall(wall_text(length, height, openings)), [len(openings), 0, 0])


class NotTheLine(WallCase):

    def test_no_bytes(self):
        self.assertEqual(wall([]), [-6, 2, 0, 1, 0])

    def test_a_name_that_is_none(self):
        for line in ("wall", "wall ", "wall  a", "wall a ", "wall a b", "wall A", "wall a1", "wall a-b", "Wall a",
                     " wall a", "walla", "", "wall `", "wall {", "wall " + "a" * 15 + "B", "wall\ta"):
            self.assert_fault(head_with(0, line), 0, 1)

    def test_a_number_that_is_none(self):
        for number, word in ((1, "long"), (2, "high")):
            for field in ("", "08", "00", "-1", "+1", "1.", "x", "8 ", " 8", "8 8", "100000", "000001", "1e", ":",
                          "/", "8\r", "\xb2"):
                self.assert_fault(head_with(number, f"{word} {field}"), number, 1)
            self.assert_fault(head_with(number, word), number, 1)

    def test_an_end_that_is_none(self):
        for number, side in ((3, "left"), (4, "right"), (5, "reveal")):
            for field in ("", "Free", "fre", "freed", "free ", " free", "free free", "0", "open", "left"):
                self.assert_fault(head_with(number, f"{side} {field}"), number, 1)
            self.assert_fault(head_with(number, side), number, 1)

    def test_an_opening_that_is_none(self):
        for line in ("", "open", "open ", "open 1 1 1", "open 1 1 1 1 1", "open 1 1 1 1 ", "open  1 1 1 1",
                     "open 1 1  1 1", "open 01 1 1 1", "open 1 00 1 1", "open 1 1 1 100000", "open 1 1 1 x",
                     "open -1 1 1 1", "Open 1 1 1 1", "opens 1 1 1 1", "wall b", "reveal free",
                     "corner a left b right"):
            self.assert_fault(HEAD + (line,), 6, 1)

    def test_a_line_that_stands_elsewhere(self):
        for number in range(6):
            self.assert_fault(HEAD[:number] + HEAD[number + 1:], number, 1)
            self.assert_fault(HEAD[:number + 1] + HEAD[number:], number + 1, 1)

    def test_a_text_that_ends_too_soon(self):
        for number in range(6):
            self.assert_fault(HEAD[:number], number, 1)

    def test_bytes_behind_the_last_line_feed(self):
        whole = text_of(HEAD + ("open 2 0 3 2", "open 7 0 2 1"))
        for end in range(len(whole)):
            text = whole[:end]
            lines = text.count(10)
            if lines >= 6 and text[-1] == 10:
                self.assertEqual(wall(text), [lines - 6, 0, 0])
            else:
                self.assert_byte_fault(text, lines, 1)
        for behind in ("x", " ", "\r", "\x00", "open 10 0 1 1", "open 99 0 1 1"):
            self.assert_byte_fault(whole + as_bytes(behind), 8, 1)


class OutOfBounds(WallCase):

    def test_a_name_too_long(self):
        self.assert_fault(head_with(0, "wall " + "a" * 16), 0, 2)

    def test_length_and_height(self):
        for number, line in ((1, "long 0"), (1, "long 33"), (1, "long 99999"), (2, "high 0"), (2, "high 9"),
                             (2, "high 32"), (2, "high 99999")):
            self.assert_fault(head_with(number, line), number, 2)

    def test_an_opening_that_is_empty_or_leaves_the_wall(self):
        for line in ("open 1 1 0 1", "open 1 1 1 0", "open 0 0 0 0", "open 12 0 0 1", "open 12 1 1 1", "open 1 4 1 1",
                     "open 11 1 2 1", "open 1 3 1 2", "open 0 0 13 1", "open 0 0 1 5", "open 99999 0 1 1",
                     "open 0 99999 1 1", "open 0 0 99999 1", "open 0 0 1 99999"):
            self.assert_fault(HEAD + (line,), 6, 2)


class LaterKinds(WallCase):

    def test_an_opening_not_behind_the_one_before(self):
        for before, line in (("open 4 1 1 1", "open 8 0 1 1"), ("open 4 1 1 1", "open 2 1 1 1"),
                             ("open 4 2 1 1", "open 4 1 1 1")):
            self.assert_fault(HEAD + (before, line), 7, 3)
            self.assert_openings(HEAD + (line, before), 2)

    def test_a_place_in_common(self):
        for before, line in (("open 2 1 3 2", "open 4 1 1 1"), ("open 2 1 3 2", "open 2 2 1 1"),
                             ("open 2 1 3 2", "open 0 2 3 1"), ("open 2 1 3 2", "open 4 2 8 2"),
                             ("open 2 0 1 4", "open 0 1 12 1"), ("open 0 0 12 4", "open 5 2 1 1")):
            self.assert_fault(HEAD + (before, line), 7, 4)

    def test_a_place_in_common_with_one_further_before(self):
        self.assert_fault(HEAD + ("open 2 0 3 3", "open 7 0 1 1", "open 4 2 1 1"), 8, 4)

    def test_a_ninth_opening(self):
        self.assert_fault(HEAD + EIGHT + ("open 8 0 1 1",), 14, 5)
        self.assert_fault(HEAD + EIGHT + ("open 0 3 12 1", "x"), 14, 5)

    def test_the_first_line_is_told(self):
        self.assert_fault(("wall A", "long 99") + HEAD[2:], 0, 1)
        self.assert_fault(("wall " + "a" * 16, "x") + HEAD[2:], 0, 2)
        self.assert_fault(HEAD + ("open 0 0 1 9", "x"), 6, 2)
        self.assert_fault(HEAD + ("open 4 0 1 1", "open 1 0 1 1", "open 4 0 1 1"), 7, 3)
        self.assert_fault(HEAD[:2] + ("high 9",), 2, 2)

    def test_the_first_kind_of_a_line_is_told(self):
        self.assert_fault(HEAD + ("open 4 1 3 2", "open 1 0 99 0x"), 7, 1)
        self.assert_fault(HEAD + ("open 4 1 3 2", "open 4 0 3 5"), 7, 2)
        self.assert_fault(HEAD + ("open 4 1 3 2", "open 4 0 3 2"), 7, 3)
        self.assert_fault(HEAD + ("open 4 1 3 2", "open 4 1 3 2"), 7, 3)
        for line, kind in (("open 8 0 1", 1), ("open 8 0 5 1", 2), ("open 6 0 1 1", 3)):
            self.assert_fault(HEAD + EIGHT + (line,), 14, kind)
        tall = EIGHT[:7] + ("open 7 0 1 2",)
        self.assert_fault(HEAD + tall + ("open 7 1 1 1",), 14, 4)
        self.assert_byte_fault(text_of(HEAD + EIGHT) + as_bytes("open 8 0 1 1"), 14, 1)


class Length(WallCase):

    def test_4096_bytes_are_read(self):
        long_name = as_bytes("wall " + "a" * 4090 + "\n")
        self.assertEqual(len(long_name), 4096)
        self.assert_byte_fault(long_name, 0, 2)
        start = text_of(HEAD)
        self.assert_byte_fault(start + [120] * (4096 - len(start)), 6, 1)
        self.assert_byte_fault([10] * 4096, 0, 1)

    def test_more_bytes_are_refused_unread(self):
        for text in too_long_texts():
            self.assertEqual(wall(text), [-1, 0, 0], len(text))


class EveryByte(WallCase):

    def assert_as_read_again(self, text):
        fault = first_fault(text)
        expected = [text.count(10) - 6, 0, 0] if fault is None else [-6, 2, fault[0], fault[1], 0]
        self.assertEqual(wall(text), expected, bytes(text))

    def test_each_byte_changed_dropped_or_put_in(self):
        whole = text_of(HEAD + ("open 2 0 3 2", "open 7 0 2 1", "open 0 3 12 1"))
        for place in range(len(whole)):
            self.assert_as_read_again(whole[:place] + whole[place + 1:])
            for byte in range(256):
                self.assert_as_read_again(whole[:place] + [byte] + whole[place + 1:])
                self.assert_as_read_again(whole[:place] + [byte] + whole[place:])

    def test_each_opening_behind_another(self):
        fields = [(x, y, w, h) for x in range(6) for y in range(4) for w in range(5) for h in range(4)]
        for numbers in fields:
            lines = ("wall a", "long 5", "high 3") + HEAD[3:] + ("open 2 1 2 1", "open %d %d %d %d" % numbers)
            self.assert_as_read_again(text_of(lines))

    def test_two_lines_changed_about(self):
        lines = HEAD + ("open 2 0 3 2", "open 7 0 2 1", "open 0 3 12 1")
        for one in range(len(lines)):
            for other in range(len(lines)):
                changed = list(lines)
                changed[one], changed[other] = changed[other], changed[one]
                self.assert_as_read_again(text_of(changed))


if __name__ == "__main__":
    unittest.main()
