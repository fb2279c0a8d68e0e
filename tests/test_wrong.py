"""Call 6, wrong."""

import itertools
import unittest

from forms import FormTest, VERY_GREAT, face_of, glyph_of, raw_scan, run, scan_of
from lettershapesdesk.faces import wrong


def ones(letter, rows):
    return glyph_of(letter, 0, 0, rows)


def count_wrong(glyph, scan, x, y):
    """The same by the words of the document, over texts."""
    pairs = [(point, scan[y + j][x + i]) for j, row in enumerate(glyph) for i, point in enumerate(row)]
    return pairs.count(("#", ".")) + pairs.count((".", "#"))


class Counting(FormTest):

    def test_each_kind_of_point_over_each(self):
        expected = {"##": 0, "#.": 1, "#?": 0, ".#": 1, "..": 0, ".?": 0, "?#": 0, "?.": 0, "??": 0}
        for (point, under), count in expected.items():
            with self.subTest(point=point, under=under):
                self.answers(wrong, [0, 0, 0, face_of(1, 0, ones(1, [point])), scan_of([under])], [0, count])

    def test_all_kinds_at_once(self):
        face = face_of(3, 0, ones(1, ["###", "...", "???"]))
        self.answers(wrong, [0, 0, 0, face, scan_of(["#.?", "#.?", "#.?"])], [0, 2])

    def test_all_small_glyphs_over_all_small_scans(self):
        texts = ["".join(signs) for signs in itertools.product("#.?", repeat=4)]
        scans = [(text, scan_of([text[:2], text[2:]])) for text in texts]
        for text in texts:
            rows = [text[:2], text[2:]]
            face = face_of(2, 0, ones(1, rows))
            for under, scan in scans:
                expected = count_wrong(rows, [under[:2], under[2:]], 0, 0)
                self.assertEqual(wrong(0, 0, 0, face, scan), [0, expected], (text, under))

    def test_every_place_of_a_scan(self):
        scan = ["#.?#..#", "..##?#.", "#?.#.##", ".#.?#..", "?##.#?#"]
        glyphs = [["#.", "?#", ".."], ["#.?#", "....", "####"], ["#.#.#.#", ".#.#.#.", "???.???"]]
        face = face_of(3, 5, *[ones(k, rows) for k, rows in enumerate(glyphs)])
        for k, rows in enumerate(glyphs):
            for x in range(9):
                for y in range(7):
                    inside = x + len(rows[0]) <= 7 and y + 3 <= 5
                    expected = [0, count_wrong(rows, scan, x, y)] if inside else [-2]
                    with self.subTest(k=k, x=x, y=y):
                        self.answers(wrong, [k, x, y, face, scan_of(scan)], expected)

    def test_more_wrong_than_the_budget_are_counted_all_the_same(self):
        face = face_of(2, 0, glyph_of(1, 1, 0, ["####", "...."]))
        self.answers(wrong, [0, 0, 0, face, scan_of(["....", "####"])], [0, 8])

    def test_widths_at_the_edges_of_a_byte(self):
        for width in (1, 7, 8, 9, 16, 63, 64):
            rows = [("#.?" * 22)[:width]]
            scan = [("?#" + "..#" * 30)[:width + 2]]
            face = face_of(1, 0, ones(1, rows))
            for x in range(3):
                with self.subTest(width=width, x=x):
                    self.answers(wrong, [0, x, 0, face, scan_of(scan)], [0, count_wrong(rows, scan, x, 0)])

    def test_greatest_count(self):
        face = face_of(64, 0, ones(1, ["#" * 64] * 64))
        self.assertEqual(wrong(0, 0, 0, face, scan_of(["." * 64] * 64)), [0, 4096])

    def test_unclear_never_makes_it_worse(self):
        glyph = ["#.?", ".#."]
        face = face_of(2, 0, ones(1, glyph))
        for signs in itertools.product("#.", repeat=6):
            text = "".join(signs)
            before = wrong(0, 0, 0, face, scan_of([text[:3], text[3:]]))[1]
            for place in range(6):
                told = text[:place] + "?" + text[place + 1:]
                after = wrong(0, 0, 0, face, scan_of([told[:3], told[3:]]))[1]
                self.assertLessEqual(after, before)


class Refusals(FormTest):

    face = face_of(2, 0, ones(1, ["##", "##"]), ones(2, ["###", "..."]))
    scan = scan_of(["#.#.#", ".#.#.", "#####"])

    def test_corners(self):
        for k, x, y in ((0, 0, 0), (0, 3, 0), (0, 0, 1), (0, 3, 1), (1, 0, 0), (1, 2, 0), (1, 0, 1), (1, 2, 1)):
            with self.subTest(k=k, x=x, y=y):
                self.assertEqual(wrong(k, x, y, self.face, self.scan)[0], 0)

    def test_too_far(self):
        for k, x, y in ((0, 4, 0), (0, 4, 1), (1, 3, 0), (1, 3, 1), (0, 0, 2), (0, 3, 2), (1, 2, 2), (0, 4, 2),
                        (0, 5, 0), (0, 6, 0), (0, 0, 3), (0, 0, 4), (0, VERY_GREAT, 0), (0, 0, VERY_GREAT),
                        (0, VERY_GREAT, VERY_GREAT), (0, 2 ** 32, 0), (0, 0, 2 ** 32), (0, 2 ** 63, 2 ** 63)):
            with self.subTest(k=k, x=x, y=y):
                self.answers(wrong, [k, x, y, self.face, self.scan], [-2])

    def test_wider_or_higher_than_the_scan(self):
        self.answers(wrong, [1, 0, 0, self.face, scan_of(["##", "##"])], [-2])
        self.answers(wrong, [0, 0, 0, self.face, scan_of(["#####"])], [-2])

    def test_no_such_glyph(self):
        for k in (2, 3, 255, 4096, VERY_GREAT):
            with self.subTest(k=k):
                self.answers(wrong, [k, 0, 0, self.face, self.scan], [-2])
        self.answers(wrong, [0, 0, 0, face_of(1, 0), self.scan], [-2])

    def test_not_a_face(self):
        self.answers(wrong, [0, 0, 0, self.face + [9], self.scan], [-5, 0, 7, len(self.face)])
        self.answers(wrong, [0, 0, 0, self.scan, self.scan], [-5, 0, 1, 2])

    def test_not_a_scan(self):
        self.answers(wrong, [0, 0, 0, self.face, self.scan + [9]], [-5, 1, 7, len(self.scan)])
        self.answers(wrong, [0, 0, 0, self.face, self.face], [-5, 1, 1, 2])
        self.answers(wrong, [0, 0, 0, self.face, []], [-5, 1, 5, 0])

    def test_the_face_before_the_scan(self):
        self.answers(wrong, [0, 0, 0, self.face[:-1], []], [-5, 0, 5, len(self.face) - 1])
        self.answers(wrong, [0, 0, 0, [], raw_scan(0, 0)], [-5, 0, 5, 0])

    def test_forms_before_the_glyph_and_its_place(self):
        for k, x in ((9, 0), (0, 9), (VERY_GREAT, VERY_GREAT)):
            with self.subTest(k=k, x=x):
                self.answers(wrong, [k, x, 0, self.face + [9], self.scan], [-5, 0, 7, len(self.face)])
                self.answers(wrong, [k, x, 0, self.face, raw_scan(1, 1, run("#", 2))], [-5, 1, 4, 12])


if __name__ == "__main__":
    unittest.main()
