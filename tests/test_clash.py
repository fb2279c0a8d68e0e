"""Call 8, clash."""

import itertools
import unittest

from forms import FormTest, VERY_GREAT, face_of, glyph_of
from lettershapesdesk.faces import clash


def count_clash(left, right, d):
    """The same by the words of the document, over texts."""
    pairs = [(left[j][i + d], point) for j, row in enumerate(right) for i, point in enumerate(row)
             if i + d < len(left[j])]
    return pairs.count(("#", ".")) + pairs.count((".", "#"))


def face_with(*shapes):
    return face_of(len(shapes[0]), 0, *[glyph_of(k, 0, 0, rows) for k, rows in enumerate(shapes)])


class Clash(FormTest):

    def test_each_kind_of_point_over_each(self):
        for left, right in itertools.product("#.?", repeat=2):
            with self.subTest(left=left, right=right):
                expected = 1 if left + right in ("#.", ".#") else 0
                self.answers(clash, [0, 1, 0, face_with([left], [right])], [0, expected])

    def test_shifted_within_the_width_at_it_and_beyond(self):
        face = face_with(["###", "..."], ["...", "###"])
        for d, count in ((0, 6), (1, 4), (2, 2), (3, 0), (4, 0), (64, 0), (65, 0), (VERY_GREAT, 0), (2 ** 63, 0)):
            with self.subTest(d=d):
                self.answers(clash, [0, 1, d, face], [0, count])

    def test_the_second_is_the_one_that_is_shifted(self):
        face = face_with(["?#"], [".?"])
        self.answers(clash, [0, 1, 1, face], [0, 1])
        self.answers(clash, [1, 0, 1, face], [0, 0])
        self.answers(clash, [0, 1, 0, face], [0, 0])

    def test_different_widths_in_both_orders(self):
        face = face_with(["##"], ["....."])
        for left, right, counts in ((0, 1, (2, 1, 0, 0, 0, 0)), (1, 0, (2, 2, 2, 2, 1, 0))):
            for d, count in enumerate(counts):
                with self.subTest(left=left, right=right, d=d):
                    self.answers(clash, [left, right, d, face], [0, count])

    def test_a_glyph_with_itself(self):
        face = face_with(["#.#.", "??#."])
        for d, count in ((0, 0), (1, 4), (2, 0), (3, 1), (4, 0)):
            with self.subTest(d=d):
                self.answers(clash, [0, 0, d, face], [0, count])

    def test_the_same_at_no_shift_in_both_orders(self):
        shapes = (["#.?#", "..##"], ["#", "?"], [".##.#.", "#?#?#?"], ["....", "...."])
        for left, right in itertools.product(range(4), repeat=2):
            count = count_clash(shapes[left], shapes[right], 0)
            self.assertEqual(clash(left, right, 0, face_with(*shapes)), [0, count])
            self.assertEqual(clash(right, left, 0, face_with(*shapes)), [0, count])

    def test_budgets_do_not_count(self):
        face = face_of(1, 0, glyph_of(1, 4096, 9, ["###"]), glyph_of(2, 1, 9, ["..."]))
        self.answers(clash, [0, 1, 0, face], [0, 3])

    def test_all_small_shapes(self):
        texts = ["".join(signs) for count in (1, 2, 3) for signs in itertools.product("#.?", repeat=count)]
        for left, right in itertools.product(texts, repeat=2):
            face = face_with([left], [right])
            for d in range(4):
                expected = count_clash([left], [right], d)
                self.assertEqual(clash(0, 1, d, face), [0, expected], (left, right, d))

    def test_widths_at_the_edges_of_a_byte(self):
        for wide, narrow in itertools.product((1, 7, 8, 9, 16, 63, 64), repeat=2):
            left, right = [("#.?" * 22)[:wide]] * 2, [("#?." * 22)[:narrow], ("..#" * 22)[:narrow]]
            face = face_with(left, right)
            for d in (0, 1, 7, 8, 9, 62, 63, 64):
                expected = count_clash(left, right, d)
                self.assertEqual(clash(0, 1, d, face), [0, expected], (wide, narrow, d))

    def test_greatest_clash(self):
        face = face_with(["#" * 64] * 64, ["." * 64] * 64)
        self.answers(clash, [0, 1, 0, face], [0, 4096])
        self.answers(clash, [0, 1, 63, face], [0, 64])


class Refusals(FormTest):

    face = face_with(["#"], ["."])

    def test_no_such_glyph(self):
        for k in (2, 3, 256, VERY_GREAT):
            with self.subTest(k=k):
                self.answers(clash, [k, 0, 0, self.face], [-2])
                self.answers(clash, [0, k, 0, self.face], [-2])
                self.answers(clash, [k, k, 0, self.face], [-2])
                self.answers(clash, [k, 1, VERY_GREAT, self.face], [-2])
                self.answers(clash, [1, k, VERY_GREAT, self.face], [-2])
        self.answers(clash, [0, 0, 0, face_of(1, 0)], [-2])

    def test_the_face_before_the_glyphs(self):
        for left, right in ((0, 1), (2, 0), (0, 2), (VERY_GREAT, VERY_GREAT)):
            with self.subTest(left=left, right=right):
                self.answers(clash, [left, right, 0, self.face + [0]], [-5, 0, 7, len(self.face)])
                self.answers(clash, [left, right, 0, []], [-5, 0, 5, 0])


if __name__ == "__main__":
    unittest.main()
