"""Call 9, alikes; of promise 4."""

import itertools
import unittest

from forms import FormTest, face_of, glyph_of, raw_glyph, scan_of
from lettershapesdesk.faces import alikes, clash, fits


class Alikes(FormTest):

    def told(self, face, *pairs):
        numbers = [number for pair in pairs for number in pair]
        self.answers(alikes, [face], [0, len(numbers)] + numbers)

    def test_no_glyph_and_one(self):
        self.told(face_of(1, 0))
        self.told(face_of(1, 0, glyph_of(1, 4096, 0, ["#"])))

    def test_no_pair(self):
        self.told(face_of(1, 0, glyph_of(1, 0, 0, ["#"]), glyph_of(2, 0, 0, ["."])))

    def test_one_pair(self):
        self.told(face_of(1, 0, glyph_of(1, 0, 0, ["#?"]), glyph_of(2, 0, 0, [".?"]), glyph_of(3, 0, 0, ["##"])),
                  (0, 2, 0))

    def test_by_the_first_then_by_the_second(self):
        face = face_of(1, 0, glyph_of(1, 1, 0, ["#"]), glyph_of(2, 1, 0, ["."]), glyph_of(3, 0, 0, ["#"]),
                       glyph_of(4, 0, 0, ["."]))
        self.told(face, (0, 1, 1), (0, 2, 0), (0, 3, 1), (1, 2, 1), (1, 3, 0))

    def test_clash_just_at_both_budgets_and_one_above(self):
        for first, second in ((0, 4), (4, 0), (2, 2), (1, 3), (5, 0), (0, 5), (3, 3), (4096, 4096)):
            with self.subTest(first=first, second=second):
                face = face_of(2, 0, glyph_of(1, first, 0, ["##?", "##?"]), glyph_of(2, second, 0, ["..?", "..?"]))
                self.told(face, (0, 1, 4))
        for first, second in ((0, 3), (3, 0), (1, 2), (2, 1), (0, 0)):
            with self.subTest(first=first, second=second):
                face = face_of(2, 0, glyph_of(1, first, 0, ["##?", "##?"]), glyph_of(2, second, 0, ["..?", "..?"]))
                self.told(face)

    def test_different_widths(self):
        wide = glyph_of(2, 0, 0, ["#" * 20])
        self.told(face_of(1, 0, glyph_of(1, 0, 0, ["#"]), wide), (0, 1, 0))
        self.told(face_of(1, 0, glyph_of(1, 1, 0, ["..#"]), wide))
        self.told(face_of(1, 0, glyph_of(1, 2, 0, ["..#"]), wide), (0, 1, 2))
        self.told(face_of(1, 0, glyph_of(1, 2, 0, ["." * 64]), wide))
        self.told(face_of(1, 0, glyph_of(1, 20, 0, ["." * 64]), wide), (0, 1, 20))

    def test_costs_do_not_count(self):
        self.told(face_of(1, 4095, glyph_of(1, 0, 4095, ["#"]), glyph_of(2, 0, 4095, ["."])))

    def test_one_letter_twice(self):
        self.told(face_of(1, 0, glyph_of(1, 0, 0, ["#"]), glyph_of(1, 0, 1, ["#"])), (0, 1, 0))

    def test_twenty_glyphs(self):
        face = face_of(1, 0, *[glyph_of(k, 0, 0, ["?"]) for k in range(20)])
        self.told(face, *[(f, g, 0) for f, g in itertools.combinations(range(20), 2)])

    def test_agrees_with_clash(self):
        texts = ["".join(signs) for signs in itertools.product("#.?", repeat=2)]
        shapes = [(k % 2, [text]) for k, text in enumerate(texts)] + [(0, ["#.#"]), (1, ["."])]
        face = face_of(1, 0, *[glyph_of(k, budget, 0, rows) for k, (budget, rows) in enumerate(shapes)])
        pairs = []
        for f, g in itertools.combinations(range(len(shapes)), 2):
            count = clash(f, g, 0, face)[1]
            if count <= shapes[f][0] + shapes[g][0]:
                pairs.append((f, g, count))
        self.told(face, *pairs)

    def test_not_a_face(self):
        self.answers(alikes, [[]], [-5, 0, 5, 0])
        self.answers(alikes, [scan_of(["#"])], [-5, 0, 1, 2])
        self.answers(alikes, [face_of(1, 0, raw_glyph(), raw_glyph())], [-5, 0, 6, 18])
        self.answers(alikes, [face_of(1, 0) + [0]], [-5, 0, 7, 9])


class SomeScanFitsBoth(unittest.TestCase):

    def test_over_all_scans_without_unclear_points(self):
        texts = ["".join(signs) for count in (1, 2, 3) for signs in itertools.product("#.?", repeat=count)]
        scans = [scan_of(["".join(signs)]) for signs in itertools.product("#.", repeat=3)]
        shapes = [(budget, text) for text in texts[::2] for budget in (0, 1)]
        for first, second in itertools.combinations(shapes, 2):
            face = face_of(1, 0, glyph_of(1, first[0], 0, [first[1]]), glyph_of(2, second[0], 0, [second[1]]))
            some = False
            for scan in scans:
                told = fits(0, 0, 3, 1, face, scan)[2:]
                here = [told[at + 2] for at in range(0, len(told), 4) if told[at] == 0]
                some = some or here == [0, 1]
            self.assertEqual(alikes(face)[1] == 3, some, (first, second))


if __name__ == "__main__":
    unittest.main()
