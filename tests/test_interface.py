"""The interface: names and arguments, nothing changed, nothing kept, whole numbers in one list."""

import copy
import inspect
import itertools
import unittest

from tests.support import HEAD, MOST, Bond, Wall, as_bytes, bond_text, site_text, text_of, wall_text
from wallbonds import sites

CALLS = {"wall": "t", "size": "t", "panels": "t", "where": "x y t", "fill": "b t", "counts": "b t", "check": "b t d",
         "site": "u", "sizes": "u", "text": "i u", "corner": "i u", "fills": "b u",
         "bricks": "b u", "brick": "i b u", "which": "wall x y b u", "on": "i b u"}
BONDS = (
    bond_text(Bond(1, 2, "SHTBC", ("SH", "H"))),
    bond_text(Bond(1, 0, "", ("S",))),
    bond_text(Bond(1, 0, "", ("S",)))[:-1],
    [],
    [120] * 6000,
)
WALLS = (
    [],
    text_of(HEAD),
    text_of(HEAD)[:-1],
    wall_text(12, 4, [(3, 1, 2, 2), (0, 3, 12, 1)], (1, 2, 1)),
    wall_text(12, 4, [(3, 1, 2, 2), (4, 2, 1, 1)]),
    wall_text(12, 4, [(0, 0, 12, 4)]),
    [10] * 4096,
    [120] * 6000,
)
DRAWINGS = (
    [],
    as_bytes("S---S---S---\n" * 4),
    as_bytes("............\n" * 4),
    as_bytes("H-S---H-H-H-\nS---H-S---H-\nH-S---H-S---\nS---H-S---H-\n"),
    [120] * 6000,
)
SITES = (
    [],
    text_of(HEAD),
    site_text([Wall(8, 2, [], (1, 2, 0))] * 3, [(0, 0, 1, 1), (0, 1, 1, 0)]),
    site_text([Wall(8, 2, [(4, 0, 2, 1)], (1, 2, 0))] * 2, [(0, 0, 1, 0)]),
    site_text([Wall(3, 2, [], (1, 2, 0))] * 2, [(0, 0, 1, 1)]),
    [120] * 6000,
)
HANDED = {"i": (0, 5, MOST), "wall": (0, MOST), "x": (0, 5, MOST), "y": (0, MOST), "b": BONDS, "t": WALLS,
          "d": DRAWINGS, "u": SITES}


def all_calls():
    """(name, arguments) of every call with every choice of what is handed in, as copies."""
    for name, arguments in CALLS.items():
        for handed in itertools.product(*[HANDED[argument] for argument in arguments.split()]):
            yield name, copy.deepcopy(handed)


def call(name, handed):
    return getattr(sites, name)(*handed)


class Interface(unittest.TestCase):

    def test_names_and_arguments(self):
        for name, arguments in CALLS.items():
            self.assertEqual(list(inspect.signature(getattr(sites, name)).parameters), arguments.split())

    def test_what_is_handed_in_is_as_it_was(self):
        for name, handed in all_calls():
            before = copy.deepcopy(handed)
            call(name, handed)
            self.assertEqual(handed, before)

    def test_the_same_answer_a_second_time(self):
        first = [(name, handed, call(name, handed)) for name, handed in all_calls()]
        for name, handed, answer in reversed(first):
            self.assertEqual(call(name, handed), answer)

    def test_an_answer_that_is_changed_spoils_no_other(self):
        for name, handed in all_calls():
            answer = call(name, handed)
            kept = list(answer)
            answer.clear()
            self.assertEqual(call(name, handed), kept)

    def test_one_list_of_whole_numbers_in_three_parts(self):
        for name, handed in all_calls():
            answer = call(name, handed)
            self.assertIs(type(answer), list)
            self.assertEqual({type(number) for number in answer}, {int})
            row_end = 2 + answer[1]
            self.assertEqual(len(answer), row_end + 1 + answer[row_end])

    def test_nothing_is_changed_for_a_while_either(self):
        class Unchanging(list):
            def refuse(self, *arguments):
                raise AssertionError("what was handed in is changed")
            append = extend = insert = pop = remove = clear = sort = reverse = refuse
            __setitem__ = __delitem__ = __iadd__ = __imul__ = refuse
        for name, handed in all_calls():
            guarded = [Unchanging(part) if isinstance(part, list) else part for part in handed]
            self.assertEqual(call(name, guarded), call(name, handed))


if __name__ == "__main__":
    unittest.main()
