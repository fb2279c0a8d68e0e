"""Call 2, glyph."""

import unittest

from forms import FormTest, VERY_GREAT, face_of, glyph_of, points_of, raw_glyph
from lettershapesdesk.faces import glyph


def told(letter, budget, cost, rows):
    points = points_of(rows)
    return [0, letter, len(rows[0]), budget, cost, len(points)] + points


class GlyphCall(FormTest):

    def test_three_kinds_of_point_in_several_rows(self):
        face = face_of(3, 9, glyph_of(65, 2, 300, ["#.?", "?#.", ".?#"]))
        self.answers(glyph, [0, face], [0, 65, 3, 2, 300, 9, 1, 0, 2, 2, 1, 0, 0, 2, 1])

    def test_bits_of_a_byte_are_columns_from_the_lowest(self):
        face = face_of(1, 0, raw_glyph(5, 9, 6, 7, ink=[0b00000001, 1], paper=[0b10000010, 0]))
        self.answers(glyph, [0, face], [0, 5, 9, 6, 7, 9, 1, 0, 2, 2, 2, 2, 2, 0, 1])

    def test_widths_at_the_edges_of_a_byte(self):
        for width in (1, 2, 7, 8, 9, 15, 16, 17, 63, 64):
            rows = [("#.?" * 22)[shift:shift + width] for shift in (0, 1, 2, 0)]
            with self.subTest(width=width):
                face = face_of(4, 1, glyph_of(4095, 4096, 4095, rows))
                self.answers(glyph, [0, face], told(4095, 4096, 4095, rows))

    def test_each_point_by_itself(self):
        for column in range(17):
            for row in range(3):
                for sign in "#.":
                    rows = ["?" * 17] * 3
                    rows[row] = "?" * column + sign + "?" * (16 - column)
                    with self.subTest(column=column, row=row, sign=sign):
                        face = face_of(3, 0, glyph_of(0, 0, 0, rows))
                        self.assertEqual(glyph(0, face), told(0, 0, 0, rows))

    def test_all_ink_all_paper_all_free(self):
        for sign in "#.?":
            rows = [sign * 64] * 64
            with self.subTest(sign=sign):
                self.answers(glyph, [0, face_of(64, 0, glyph_of(1, 2, 3, rows))], told(1, 2, 3, rows))

    def test_first_middle_and_last_glyph(self):
        shapes = [(0, 1, 2, ["#", "."]), (3, 4, 5, ["#.?" * 3, "?.#" * 3]), (3, 0, 6, [".#" * 8, "??" * 8]),
                  (4095, 4096, 4095, ["?" * 64, "#" * 64])]
        face = face_of(2, 11, *[glyph_of(*shape) for shape in shapes])
        for k, shape in enumerate(shapes):
            with self.subTest(k=k):
                self.answers(glyph, [k, face], told(*shape))

    def test_twenty_glyphs(self):
        face = face_of(1, 0, *[glyph_of(letter, letter, 0, ["#"]) for letter in range(20)])
        for k in range(20):
            self.assertEqual(glyph(k, face), [0, k, 1, k, 0, 1, 1])
        self.answers(glyph, [20, face], [-2])

    def test_no_such_glyph(self):
        none = face_of(5, 0)
        two_glyphs = face_of(1, 0, glyph_of(1, 0, 0, ["#"]), glyph_of(2, 0, 0, ["#"]))
        for face, count in ((none, 0), (two_glyphs, 2)):
            for k in (count, count + 1, 255, 4096, 65536, VERY_GREAT):
                with self.subTest(count=count, k=k):
                    self.answers(glyph, [k, face], [-2])

    def test_not_a_face_comes_before_no_such_glyph(self):
        face = face_of(1, 0, glyph_of(1, 0, 0, ["#"]))
        for k in (0, 1, VERY_GREAT):
            with self.subTest(k=k):
                self.answers(glyph, [k, face + [0]], [-5, 0, 7, len(face)])
                self.answers(glyph, [k, face[:-1]], [-5, 0, 5, len(face) - 1])
                self.answers(glyph, [k, []], [-5, 0, 5, 0])
                self.answers(glyph, [k, [83, 72, 71]], [-5, 0, 1, 2])

    def test_a_fault_behind_the_glyph_that_is_asked_for(self):
        face = face_of(1, 0, glyph_of(2, 0, 0, ["#"]), glyph_of(1, 0, 0, ["#"]))
        self.answers(glyph, [0, face], [-5, 0, 6, 18])


if __name__ == "__main__":
    unittest.main()
