"""The interface: names and arguments, nothing changed, nothing kept, whole numbers in one list."""

import inspect
import unittest

from tests.support import HEAD, text_of, wall_text
from wallbonds import sites

CALLS = {"wall": ["t"], "size": ["t"], "panels": ["t"]}
TEXTS = (
    [],
    text_of(HEAD),
    text_of(HEAD)[:-1],
    wall_text(12, 4, [(3, 1, 2, 2), (0, 3, 12, 1)], (1, 2, 1)),
    wall_text(12, 4, [(3, 1, 2, 2), (4, 2, 1, 1)]),
    wall_text(12, 4, [(0, 0, 12, 4)]),
    [10] * 4096,
    [120] * 6000,
)


class Interface(unittest.TestCase):

    def test_names_and_arguments(self):
        for name, arguments in CALLS.items():
            self.assertEqual(list(inspect.signature(getattr(sites, name)).parameters), arguments)

    def test_what_is_handed_in_is_as_it_was(self):
        for name in CALLS:
            for text in TEXTS:
                handed = list(text)
                getattr(sites, name)(handed)
                self.assertEqual(handed, text)

    def test_the_same_answer_a_second_time(self):
        first = {(name, k): getattr(sites, name)(list(text)) for name in CALLS for k, text in enumerate(TEXTS)}
        for name, k in reversed(list(first)):
            self.assertEqual(getattr(sites, name)(list(TEXTS[k])), first[name, k])

    def test_an_answer_that_is_changed_spoils_no_other(self):
        for name in CALLS:
            for text in TEXTS:
                answer = getattr(sites, name)(text)
                kept = list(answer)
                answer.clear()
                self.assertEqual(getattr(sites, name)(text), kept)

    def test_one_list_of_whole_numbers_in_three_parts(self):
        for name in CALLS:
            for text in TEXTS:
                answer = getattr(sites, name)(text)
                self.assertIs(type(answer), list)
                self.assertEqual({type(number) for number in answer}, {int})
                row_end = 2 + answer[1]
                self.assertEqual(len(answer), row_end + 1 + answer[row_end])


if __name__ == "__main__":
    unittest.main()
