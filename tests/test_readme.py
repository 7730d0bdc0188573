"""README.md: what its examples say is what the calls answer."""

import contextlib
import io
import pathlib
import re
import unittest

README = pathlib.Path(__file__).resolve().parent.parent / "README.md"


class Examples(unittest.TestCase):

    def test_answers_and_drawings(self):
        code = re.search(r"```python\n(.*?)```", README.read_text(), re.DOTALL)[1]
        names, printed = {}, io.StringIO()
        with contextlib.redirect_stdout(printed):
            exec(code, names)
        answers = re.findall(r"^(\w+\(.*\)) +# (\[.*\])$", code, re.MULTILINE)
        self.assertGreater(len(answers), 8)
        for call, answer in answers:
            self.assertEqual(str(eval(call, names)), answer, call)
        for drawing in re.findall(r"(?:^# .*\n)+", code, re.MULTILINE):
            self.assertIn(drawing.replace("# ", ""), printed.getvalue())


if __name__ == "__main__":
    unittest.main()
