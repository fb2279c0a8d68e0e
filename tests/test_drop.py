"""Call 5, drop; with put, of promise 1."""

import unittest

from forms import FormTest, VERY_GREAT, face_of, glyph_of
from lettershapesdesk.faces import drop, glyph, judge, put

SHAPES = [(1, 4, 5, ["#.?", "..#"]), (1, 0, 0, ["#.?#.?#.?", "." * 9]), (65, 256, 0, ["#", "."]),
          (65, 1, 0, ["#", "."]), (700, 4096, 4095, ["?#" * 10, ".?" * 10]), (4095, 0, 0, ["?" * 64, "#" * 64])]
GLYPHS = [glyph_of(*shape) for shape in SHAPES]


class Drop(FormTest):

    def test_each_glyph_of_several(self):
        for count in range(1, len(GLYPHS) + 1):
            for k in range(count):
                with self.subTest(count=count, k=k):
                    form = face_of(2, 300, *GLYPHS[:k], *GLYPHS[k + 1:count])
                    self.answers(drop, [k, face_of(2, 300, *GLYPHS[:count])], [0, len(form)] + form)

    def test_the_only_one(self):
        self.answers(drop, [0, face_of(1, 9, glyph_of(1, 2, 3, ["#"]))], [0, 9, 83, 72, 70, 49, 1, 9, 0, 0, 0])

    def test_most_glyphs(self):
        glyphs = [glyph_of(letter, 0, 0, ["#"]) for letter in range(4096)]
        form = face_of(1, 0, *glyphs[:-1])
        self.assertEqual(drop(4095, face_of(1, 0, *glyphs)), [0, len(form)] + form)

    def test_no_such_glyph(self):
        for count in (0, 1, 6):
            for k in (count, count + 1, 255, 4096, 65536, VERY_GREAT):
                with self.subTest(count=count, k=k):
                    self.answers(drop, [k, face_of(2, 0, *GLYPHS[:count])], [-2])

    def test_not_a_face_comes_before_no_such_glyph(self):
        face = face_of(2, 0, *GLYPHS)
        for k in (0, 6, VERY_GREAT):
            with self.subTest(k=k):
                self.answers(drop, [k, face[:-1]], [-5, 0, 5, len(face) - 1])
                self.answers(drop, [k, face + [0]], [-5, 0, 7, len(face)])
                self.answers(drop, [k, []], [-5, 0, 5, 0])
                self.answers(drop, [k, face_of(65, 0)], [-5, 0, 2, 4])

    def test_a_fault_in_the_glyph_that_is_dropped(self):
        face = face_of(2, 0, GLYPHS[0], GLYPHS[0])
        self.answers(drop, [1, face], [-5, 0, 6, 9 + len(GLYPHS[0])])


class PutAndDrop(unittest.TestCase):

    def test_put_then_drop(self):
        for k, (letter, budget, cost, rows) in enumerate(SHAPES):
            face = face_of(2, 300, *GLYPHS[:k], *GLYPHS[k + 1:])
            points = [".#?".index(point) for row in rows for point in row]
            more = put(letter, len(rows[0]), budget, cost, face, points)[2:]
            with self.subTest(k=k):
                self.assertEqual(judge(more), [0, 2, 300, 6])
                self.assertEqual(glyph(k, more)[1:6], [letter, len(rows[0]), budget, cost, len(points)])
                self.assertEqual(glyph(k, more)[6:], points)
                self.assertEqual(drop(k, more), [0, len(face)] + face)

    def test_drop_then_put(self):
        face = face_of(2, 300, *GLYPHS)
        for k in range(6):
            told = glyph(k, face)
            fewer = drop(k, face)[2:]
            with self.subTest(k=k):
                self.assertEqual(put(*told[1:5], fewer, told[6:]), [0, len(face)] + face)


if __name__ == "__main__":
    unittest.main()
