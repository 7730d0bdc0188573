"""Call 8, site: what is a site's text, and the first fault of one that's none's (P1)."""

import random
import unittest

from tests.support import (
    HEAD, Wall, as_bytes, head_with, no_walls, site_again, site_text, some_sites, text_of, text_of_wall, too_long_texts,
    wall_text)
from wallbonds.sites import site, wall

EIGHT = tuple(f"open {x} 0 1 1" for x in range(8))
# Ends that fit in every corner of a left end with a right one.
TURN = Wall(8, 2, [], (1, 2, 0))


def head(name, long=8, high=2, left="side", right="end"):
    return (f"wall {name}", f"long {long}", f"high {high}", f"left {left}", f"right {right}", "reveal free")


class SiteCase(unittest.TestCase):

    def assert_walls(self, lines, count):
        self.assertEqual(site(text_of(lines)), [count, 0, 0], lines)

    def assert_fault(self, lines, line, kind):
        self.assertEqual(site(text_of(lines)), [-6, 2, line, kind, 0], lines)

    def assert_byte_fault(self, text, line, kind):
        self.assertEqual(site(text), [-6, 2, line, kind, 0], bytes(text[:200]))

    def assert_as_read_again(self, text):
        told = site_again(text)
        answer = [-6, 2, *told, 0] if isinstance(told[0], int) else [len(told[0]), 0, 0]
        self.assertEqual(site(text), answer, bytes(text))
        return answer


A, B, C, D = head("a"), head("b"), head("c"), head("d")
CORNER = "corner a left b right"


class Right(SiteCase):

    def test_one_wall_to_four(self):
        self.assert_walls(A, 1)
        self.assert_walls(A + B, 2)
        self.assert_walls(A + B + C, 3)
        self.assert_walls(A + B + C + D, 4)

    def test_walls_with_openings(self):
        self.assert_walls(HEAD + EIGHT + B, 2)
        self.assert_walls(B + HEAD + ("open 3 1 2 2", "open 0 3 12 1"), 2)

    def test_corners(self):
        self.assert_walls(A + B + (CORNER,), 2)
        self.assert_walls(A + B + (CORNER, "corner a right b left"), 2)
        self.assert_walls(A + B + C + (CORNER, "corner a right c left", "corner b left c right"), 3)
        ring = ("corner a left d right", "corner a right b left", "corner b right c left", "corner c right d left")
        self.assert_walls(A + B + C + D + ring, 4)
        self.assert_walls(A + B + C + D + ("corner a left b right", "corner c left d right"), 4)

    def test_left_with_left_and_right_with_right(self):
        self.assert_walls(A + head("b", left="end") + ("corner a left b left",), 2)
        self.assert_walls(A + head("b", right="side") + ("corner a right b right",), 2)

    def test_names_of_all_lengths_and_any_words(self):
        self.assert_walls(head("z" * 15) + head("wall") + head("corner") + head("left"), 4)
        self.assert_walls(head("left") + head("right") + ("corner left left right right",), 2)

    def test_ends_out_of_corners_may_be_any(self):
        self.assert_walls(A[:3] + ("left free", "right free") + A[5:] + B, 2)
        self.assert_walls(head("a", right="free") + head("b", left="free") + (CORNER,), 2)

    def test_walls_of_other_heights_that_no_corner_joins(self):
        self.assert_walls(head("a", high=1) + head("b", high=8) + head("c", high=1) + ("corner a left c right",), 3)

    def test_a_short_wall_with_one_end_in_a_corner(self):
        for long in range(1, 5):
            self.assert_walls(head("a", long=long) + head("b", long=long) + (CORNER,), 2)

    def test_a_wall_of_five_with_both_ends_in_corners(self):
        self.assert_walls(head("a", long=5) + head("b", long=5) + (CORNER, "corner a right b left"), 2)

    def test_openings_beside_corners(self):
        self.assert_walls(A + ("open 1 0 7 2",) + B + ("open 0 0 7 2",) + (CORNER,), 2)

    def test_sites_of_all_sizes(self):
        for walls, corners in some_sites(300):
            self.assertEqual(site(site_text(walls, corners)), [len(walls), 0, 0])


class WallFaults(SiteCase):

    def test_no_bytes(self):
        self.assert_byte_fault([], 0, 1)

    def test_no_wall(self):
        for line in ("", "corner a left b right", "corner ", "open 1 1 1 1", "x", "wall"):
            self.assert_fault((line,), 0, 1)
            self.assert_fault((line,) + A, 0, 1)
            self.assert_byte_fault(as_bytes(line), 0, 1)

    def test_a_wall_s_faults_in_the_first_wall(self):
        for text in no_walls():
            self.assertEqual(site(text), wall(text), bytes(text[:99]))

    def test_a_wall_s_faults_in_a_later_wall(self):
        for text in no_walls()[2:]:
            line, kind = wall(text)[2:4]
            text = as_bytes(bytes(text).decode("latin-1").replace("wall a", "wall x", 1))
            before = text_of(A + ("open 1 0 1 1",) + B)
            self.assert_byte_fault(before + text, line + 13, kind)

    def test_each_line_of_the_head(self):
        for number in range(6):
            for line in ("x", "", "open 1 1 1", "walls c", "wall C"):
                self.assert_fault(A + B[:number] + (line,) + B[number + 1:], 6 + number, 1)
            self.assert_fault(head_with(number, "x"), number, 1)
        for number in range(1, 6):
            for line in ("wall c", "wall a", "corner a left b right", "open 1 1 1 1"):
                self.assert_fault(A + B[:number] + (line,) + B[number + 1:], 6 + number, 1)
        self.assert_fault(A + head("b" * 16), 6, 2)
        self.assert_fault(A + head("b", long=33), 7, 2)
        self.assert_fault(A + head("b", high=0), 8, 2)

    def test_openings_of_a_later_wall(self):
        for lines, line, kind in ((("open 0 0 9 1",), 12, 2), (("open 4 0 1 1", "open 2 0 1 1"), 13, 3),
                                  (("open 4 0 2 1", "open 5 0 1 1"), 13, 4), (EIGHT + ("open 0 1 1 1",), 20, 5),
                                  (("walls",), 12, 1), (("corner",), 12, 1), (("Wall c",), 12, 1)):
            self.assert_fault(A + B + lines, line, kind)

    def test_a_text_that_ends_within_a_wall_s_head(self):
        for number in range(1, 6):
            self.assert_fault(A + B[:number], 6 + number, 1)
            self.assert_fault(A + B[:number] + C, 6 + number, 1)
            self.assert_fault(A + B[:number] + (CORNER,), 6 + number, 1)
            self.assert_byte_fault(text_of(A + B[:number]) + as_bytes(CORNER), 6 + number, 1)
            self.assert_fault(A[:number], number, 1)

    def test_a_name_that_is_there_already(self):
        self.assert_fault(A + A, 6, 6)
        self.assert_fault(A + B + A, 12, 6)
        self.assert_fault(A + B + B, 12, 6)
        self.assert_fault(A + ("open 1 1 1 1",) + A, 7, 6)
        self.assert_fault(A + ("wall a", "x"), 6, 6)
        self.assert_fault(A + ("wall a",), 6, 6)
        self.assert_walls(head("a") + head("aa"), 2)

    def test_a_fifth_wall(self):
        four = A + B + C + D
        self.assert_fault(four + head("e"), 24, 7)
        self.assert_fault(four + ("wall e", "x"), 24, 7)
        self.assert_fault(four + ("wall e",), 24, 7)
        self.assert_fault(four + head("d"), 24, 6)
        self.assert_fault(four + head("a"), 24, 6)
        self.assert_fault(four + head("e" * 16), 24, 2)
        self.assert_fault(four + head("E"), 24, 1)
        self.assert_byte_fault(text_of(four) + as_bytes("wall e"), 24, 1)


class BehindTheLastLineFeed(SiteCase):

    def test_behind_walls(self):
        for rest in ("x", " ", "corner", "open 1 1 1 1", "wall c", "wall a", "corne", "Corner a", "\0"):
            self.assert_byte_fault(text_of(A + B) + as_bytes(rest), 12, 1)
        for rest in ("corner ", "corner a left b right", "corner x", "corner a left b right "):
            self.assert_byte_fault(text_of(A + B) + as_bytes(rest), 12, 8)

    def test_behind_corners(self):
        for rest in ("x", " ", "corner", "open 1 1 1 1", "wall c", "corner a right b left", "corner "):
            self.assert_byte_fault(text_of(A + B + (CORNER,)) + as_bytes(rest), 13, 8)

    def test_every_cut_of_a_text(self):
        text = text_of(A + ("open 1 0 1 1",) + B + (CORNER, "corner a right b left"))
        for end in range(len(text)):
            self.assert_as_read_again(text[:end])


class CornerLines(SiteCase):

    def test_a_line_that_is_none(self):
        for line in ("corner ", "corner a", "corner a left", "corner a left b", "corner a left b ",
                     "corner a left b up", "corner a left b right ", "corner  a left b right",
                     "corner a  left b right", "corner a left b Right", "corner a left b right c left",
                     "corner a left x right", "corner x left b right",
                     "corner A left b right", "corner a side b end", "corner a left  right", "corner  left b right",
                     "corner a 0 b 1", "corner a left b right\r"):
            self.assert_fault(A + B + (line,), 12, 8)

    def test_lines_of_walls_behind_a_corner(self):
        for line in ("wall c", "open 1 1 1 1", "reveal free", "", "x"):
            self.assert_fault(A + B + (CORNER, line), 13, 8)
        self.assert_fault(A + B + (CORNER,) + C, 13, 8)

    def test_the_second_wall_is_not_behind_the_first(self):
        self.assert_fault(A + B + ("corner b left a right",), 12, 8)
        self.assert_fault(A + B + ("corner a left a right",), 12, 8)
        self.assert_fault(A + B + ("corner b left b left",), 12, 8)
        self.assert_fault(A + ("corner a left a right",), 6, 8)

    def test_lines_out_of_order(self):
        self.assert_fault(A + B + ("corner a right b left", CORNER), 13, 9)
        self.assert_fault(A + B + (CORNER, CORNER), 13, 9)
        self.assert_fault(A + B + C + (CORNER, "corner a left c right"), 19, 9)
        self.assert_fault(A + B + C + ("corner b left c right", "corner a left c right"), 19, 9)
        self.assert_fault(A + B + C + D + ("corner b right c left", "corner a right d left"), 25, 9)

    def test_an_end_that_is_in_a_corner_already(self):
        self.assert_fault(A + B + ("corner a left b right", "corner a right b right"), 13, 10)
        self.assert_fault(A + B + C + ("corner a left b right", "corner b right c left"), 19, 10)
        self.assert_fault(A + B + C + ("corner a left c right", "corner b left c right"), 19, 10)

    def test_a_fifth_corner(self):
        ring = ("corner a left d right", "corner a right b left", "corner b right c left", "corner c right d left")
        for line, kind in (("corner c right d left", 9), ("corner c left d left", 9), ("corner d left d right", 8)):
            self.assert_fault(A + B + C + D + ring + (line,), 28, kind)
        pairs = ("corner a left b right", "corner a right b left", "corner c left d right", "corner c right d left")
        self.assert_walls(A + B + C + D + pairs, 4)

    def test_heights(self):
        self.assert_fault(A + head("b", high=3) + (CORNER,), 12, 11)
        self.assert_fault(A + head("b", high=1) + (CORNER,), 12, 11)

    def test_words(self):
        for left in ("free", "side", "end"):
            for right in ("free", "side", "end"):
                lines = head("a", left=left) + head("b", right=right) + (CORNER,)
                if {left, right} == {"side", "end"}:
                    self.assert_walls(lines, 2)
                else:
                    self.assert_fault(lines, 12, 11)

    def test_the_reveal_s_word_does_not_matter(self):
        for word in ("free", "side", "end"):
            self.assert_walls(A[:5] + (f"reveal {word}",) + B + (CORNER,), 2)

    def test_openings_at_the_ends(self):
        for opening in ("open 0 0 1 1", "open 0 1 1 1", "open 0 0 8 1"):
            self.assert_fault(A + (opening,) + B + (CORNER,), 13, 11)
        for opening in ("open 7 0 1 1", "open 7 1 1 1", "open 5 1 3 1"):
            self.assert_fault(A + B + (opening, CORNER), 13, 11)
        self.assert_walls(A + ("open 7 0 1 2",) + B + ("open 0 0 1 2", CORNER), 2)

    def test_a_wall_less_than_five_long_with_both_ends_in_corners(self):
        other = "corner a right b left"
        for long in range(1, 5):
            self.assert_fault(head("a", long=long) + B + (CORNER, other), 13, 11)
            self.assert_fault(A + head("b", long=long) + (CORNER, other), 13, 11)
            lines = A + head("b", long=long) + C + ("corner a right b left", "corner b right c left")
            self.assert_fault(lines, 19, 11)

    def test_the_first_line_is_told(self):
        self.assert_fault(A + B + ("corner a left b left", "x"), 12, 11)
        self.assert_fault(A + B + (CORNER, "x", "corner"), 13, 8)
        self.assert_fault(A + A + (CORNER,), 6, 6)

    def test_the_first_kind_is_told(self):
        self.assert_fault(A + B + C + ("corner b left c right", "corner a left x right"), 19, 8)
        self.assert_fault(A + B + C + ("corner b left c right", "corner a left c right"), 19, 9)
        self.assert_fault(A + B + C + ("corner a left c right", "corner b right c right"), 19, 10)
        self.assert_fault(A + head("b", high=3) + C + ("corner a left c right", "corner b right c right"), 19, 10)


class Length(SiteCase):

    def test_4096_bytes_are_read(self):
        self.assert_byte_fault([10] * 4096, 0, 1)
        self.assert_byte_fault(as_bytes("wall " + "a" * 4090 + "\n"), 0, 2)
        start = text_of(A + B + (CORNER,))
        self.assert_byte_fault(start + [120] * (4096 - len(start)), 13, 8)

    def test_more_bytes_are_refused_unread(self):
        for text in too_long_texts() + [text_of(A + B) + [120] * 4096]:
            self.assertEqual(site(text), [-1, 0, 0])


class ReadAgain(SiteCase):

    def test_each_byte_changed(self):
        text = text_of(A + ("open 1 0 1 1",) + B + (CORNER, "corner a right b left"))
        for place in range(len(text)):
            self.assert_as_read_again(text[:place] + text[place + 1:])
            for byte in as_bytes("\n abcdefghilnorst012589X\0\xff"):
                self.assert_as_read_again(text[:place] + [byte] + text[place + 1:])
                self.assert_as_read_again(text[:place] + [byte] + text[place:])

    def test_lines_changed_about(self):
        source = random.Random(51)
        more = A[2:5] + B[:5] + ("wall e", "high 1", "long 4", "open 0 0 1 1", "left free", "right side", "left end")
        kinds = set()
        for walls, corners in some_sites(400, seed=52):
            lines = bytes(site_text(walls, corners)).decode().splitlines()
            for _ in range(25):
                changed = list(lines)
                place = source.randrange(len(changed))
                if source.random() < 0.5:
                    changed[place] = source.choice(lines + list(more) + self.any_corners(source))
                else:
                    changed.insert(source.choice((place, len(lines))), source.choice(lines + self.any_corners(source)))
                answer = self.assert_as_read_again(text_of(changed))
                kinds.add(answer[3] if answer[0] == -6 else 0)
        self.assertEqual(kinds, {0, 1, 2, 3, 4, 6, 7, 8, 9, 10, 11})

    def any_corners(self, source):
        ends = ("left", "right")
        return ["corner %s %s %s %s" % (source.choice("abcd"), source.choice(ends), source.choice("abcd"),
                                        source.choice(ends)) for _ in range(12)]

    def test_a_site_of_one_wall_is_read_like_a_wall(self):
        for text in (wall_text(12, 4, [(3, 1, 2, 2)]), text_of_wall(TURN), text_of(HEAD + EIGHT)):
            self.assertEqual(site(text), [1, 0, 0])


if __name__ == "__main__":
    unittest.main()
