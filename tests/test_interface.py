"""The calls' names and arguments, as the interface has them."""

import inspect
import unittest

from lettershapesdesk import faces

CALLS = {
    "judge": ["face"], "glyph": ["k", "face"], "bare": ["h", "cost"],
    "put": ["letter", "width", "budget", "cost", "face", "points"], "drop": ["k", "face"],
    "wrong": ["k", "x", "y", "face", "scan"], "fits": ["x0", "y0", "x1", "y1", "face", "scan"],
    "clash": ["left", "right", "d", "face"], "alikes": ["face"], "unseen": ["letter", "w", "h", "b"],
    "add": ["x", "y", "seen", "scan"], "join": ["seen", "other"], "torn": ["seen"],
    "learnt": ["cost", "face", "seen"],
}


class Interface(unittest.TestCase):

    def test_names_and_arguments(self):
        for name, arguments in CALLS.items():
            with self.subTest(name=name):
                call = getattr(faces, name)
                self.assertEqual(call.__module__, "lettershapesdesk.faces")
                self.assertEqual(list(inspect.signature(call).parameters), arguments)


if __name__ == "__main__":
    unittest.main()
