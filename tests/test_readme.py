"""What README.md shows is what the calls answer."""

import pathlib
import re
import unittest

from lettershapesdesk import faces

README = pathlib.Path(__file__).resolve().parent.parent / "README.md"


class Readme(unittest.TestCase):

    def test_examples(self):
        code = re.search(r"```python\n(.*?)```", README.read_text(encoding="utf-8"), re.DOTALL).group(1)
        names = {}
        for line in code.splitlines():
            shown = re.fullmatch(r"(\w+\(.*\)\S*) +# (\[.*\])", line)
            told = re.fullmatch(r"# (\w+) is (\[.*\])", line)
            with self.subTest(line=line):
                if shown:
                    self.assertEqual(eval(shown.group(1), names), eval(shown.group(2)))
                elif told:
                    self.assertEqual(names[told.group(1)], eval(told.group(2)))
                else:
                    exec(line, names)

    def test_every_call_is_told(self):
        text = README.read_text(encoding="utf-8")
        calls = [name for name, one in vars(faces).items()
                 if callable(one) and (one.__doc__ or "").startswith("Call ")]
        self.assertGreaterEqual(len(calls), 6)
        for name in calls:
            self.assertIn(f"| `{name}(", text)


if __name__ == "__main__":
    unittest.main()
