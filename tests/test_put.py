"""Call 4, put."""

import unittest

from forms import FormTest, VERY_GREAT, face_of, glyph_of, points_of, raw_glyph
from lettershapesdesk.faces import bare, glyph, judge, put

EDGES = (1, 7, 8, 9, 16, 63, 64)


def ask(shape, face):
    """put's arguments for a glyph that is told as glyph_of wants it."""
    letter, budget, cost, rows = shape
    return [letter, len(rows[0]), budget, cost, face, points_of(rows)]


class PutTest(FormTest):

    def gives(self, arguments, form):
        self.answers(put, arguments, [0, len(form)] + form)


class Placing(PutTest):

    def placed(self, height, shapes):
        """The shapes rise: each is put where it belongs among the others, and all from a bare face on."""
        glyphs = [glyph_of(*shape) for shape in shapes]
        whole = face_of(height, 77, *glyphs)
        for k, shape in enumerate(shapes):
            with self.subTest(k=k):
                others = face_of(height, 77, *glyphs[:k], *glyphs[k + 1:])
                self.gives(ask(shape, others), whole)
                letter, budget, cost, rows = shape
                points = points_of(rows)
                self.assertEqual(glyph(k, whole), [0, letter, len(rows[0]), budget, cost, len(points)] + points)
                self.answers(put, ask(shape, whole), [-2])
        for order in (shapes, shapes[::-1], shapes[1::2] + shapes[::2]):
            face = bare(height, 77)[2:]
            for shape in order:
                face = put(*ask(shape, face))[2:]
            self.assertEqual(face, whole)

    def test_into_a_face_without_glyphs(self):
        self.gives([65, 3, 1, 5, face_of(1, 0), [1, 0, 2]],
                   [83, 72, 70, 49, 1, 0, 0, 1, 0, 65, 0, 3, 1, 0, 5, 0, 1, 2])

    def test_ahead_between_behind(self):
        self.placed(2, [(10, 0, 0, ["#.", "?#"]), (20, 0, 0, ["#.", "?#"]), (30, 0, 0, ["#.", "?#"])])

    def test_letters_count_by_their_value(self):
        self.placed(1, [(letter, 0, 0, ["#"]) for letter in (0, 1, 255, 256, 257, 511, 512, 4095)])

    def test_one_letter_in_other_widths(self):
        self.placed(2, [(65, 0, 0, ["#" * width, "." * width]) for width in EDGES])

    def test_one_letter_and_width_in_other_budgets(self):
        self.placed(1, [(65, budget, 0, ["#?"]) for budget in (0, 256, 4096, 1, 257, 2, 255)])

    def test_one_letter_and_width_in_other_costs(self):
        self.placed(1, [(65, 3, cost, ["#?"]) for cost in (0, 256, 3840, 1, 257, 2, 255, 4095)])

    def test_one_letter_and_width_with_other_points(self):
        self.placed(1, [(65, 3, 4, [row]) for row in ("??", ".?", "?.", "..", "#?", "#.", "?#", ".#", "##")])

    def test_width_comes_before_what_is_behind(self):
        self.placed(1, [(65, 4096, 4095, ["##"]), (65, 0, 0, ["???"])])

    def test_budget_comes_before_cost_before_points(self):
        self.placed(1, [(65, 1, 2, ["#"]), (65, 1, 3, ["?"]), (65, 2, 0, ["?"])])

    def test_twenty_glyphs(self):
        self.placed(1, [(letter, 0, 0, ["#"]) for letter in range(20)])


class Points(PutTest):

    def test_widths_at_the_edges_of_a_byte(self):
        for width in EDGES:
            for height in (1, 3, 64):
                rows = [("#.?" * 22)[row % 3:row % 3 + width] for row in range(height)]
                with self.subTest(width=width, height=height):
                    self.gives(ask((5, 6, 7, rows), face_of(height, 9)), face_of(height, 9, glyph_of(5, 6, 7, rows)))

    def test_each_point_by_itself(self):
        for column in range(9):
            for row in range(2):
                for sign in "#.":
                    rows = ["?" * 9] * 2
                    rows[row] = "?" * column + sign + "?" * (8 - column)
                    form = face_of(2, 0, glyph_of(1, 2, 3, rows))
                    with self.subTest(column=column, row=row, sign=sign):
                        self.assertEqual(put(*ask((1, 2, 3, rows), face_of(2, 0))), [0, len(form)] + form)

    def test_a_point_above_two(self):
        for point in (3, 4, 127, 255):
            for place in range(4):
                points = [0, 1, 2, 0]
                points[place] = point
                with self.subTest(point=point, place=place):
                    self.answers(put, [1, 2, 0, 0, face_of(2, 0), points], [-1])

    def test_too_few_and_too_many_points(self):
        for width, height in ((1, 1), (3, 2), (8, 3), (64, 64)):
            count = width * height
            face = face_of(height, 0)
            self.assertEqual(put(1, width, 0, 0, face, [1] * count)[0], 0)
            for wrong in (0, 1, count - 1, count + 1, count + width, 2 * count, 4200):
                if wrong != count:
                    with self.subTest(width=width, height=height, count=wrong):
                        self.answers(put, [1, width, 0, 0, face, [1] * wrong], [-1])

    def test_points_count_by_the_height_of_the_face(self):
        self.answers(put, [1, 3, 0, 0, face_of(2, 0), [1] * 9], [-1])
        self.assertEqual(put(1, 3, 0, 0, face_of(3, 0), [1] * 9)[0], 0)


class Bounds(PutTest):

    def test_numbers_at_their_bounds(self):
        for letter, width, budget, cost in ((0, 1, 0, 0), (4095, 1, 0, 0), (0, 64, 0, 0), (0, 1, 4096, 0),
                                            (0, 1, 0, 4095), (4095, 64, 4096, 4095)):
            rows = ["#" * width]
            with self.subTest(letter=letter, width=width, budget=budget, cost=cost):
                self.gives([letter, width, budget, cost, face_of(1, 0), [1] * width],
                           face_of(1, 0, glyph_of(letter, budget, cost, rows)))

    def test_numbers_beyond_their_bounds(self):
        good = [5, 2, 6, 7]
        for place, wrong in ((0, (4096, 4097, 65536, VERY_GREAT)), (1, (0, 65, 256, 258, VERY_GREAT)),
                             (2, (4097, 65536, VERY_GREAT)), (3, (4096, 65536, VERY_GREAT))):
            for number in wrong:
                numbers = list(good)
                numbers[place] = number
                with self.subTest(place=place, number=number):
                    self.answers(put, numbers + [face_of(1, 0), [1, 1]], [-1])
                    self.answers(put, numbers + [face_of(1, 0), []], [-1])

    def test_width_nought_with_no_points(self):
        self.answers(put, [5, 0, 0, 0, face_of(1, 0), []], [-1])


class Refusals(PutTest):

    def test_not_a_face(self):
        face = face_of(1, 0, glyph_of(1, 0, 0, ["#"]))
        for form, rule, place in (([], 5, 0), ([83, 72, 84, 49], 1, 2), (face_of(0, 0), 2, 4), (face[:-1], 5, 17),
                                  (face + [1], 7, 18), (face_of(1, 0, raw_glyph(4096)), 3, 9),
                                  (face_of(1, 0, raw_glyph(ink=[2])), 4, 16),
                                  (face_of(1, 0, raw_glyph(ink=[1], paper=[1])), 4, 17),
                                  (face_of(1, 0, raw_glyph(), raw_glyph()), 6, 18)):
            with self.subTest(rule=rule, place=place):
                self.answers(put, [2, 1, 0, 0, form, [1]], [-5, 0, rule, place])

    def test_numbers_before_the_face(self):
        for numbers in ([4096, 1, 0, 0], [1, 0, 0, 0], [1, 65, 0, 0], [1, 1, 4097, 0], [1, 1, 0, 4096]):
            with self.subTest(numbers=numbers):
                self.answers(put, numbers + [[], [1]], [-1])

    def test_a_point_above_two_before_the_face(self):
        self.answers(put, [1, 1, 0, 0, [], [3]], [-1])
        self.answers(put, [1, 1, 0, 0, [], [0, 0, 3]], [-1])

    def test_the_face_before_how_many_points(self):
        self.answers(put, [1, 1, 0, 0, [], [1, 1]], [-5, 0, 5, 0])
        self.answers(put, [1, 1, 0, 0, [], []], [-5, 0, 5, 0])

    def test_how_many_points_before_there_already(self):
        face = face_of(1, 0, glyph_of(1, 0, 0, ["#"]))
        self.answers(put, [1, 1, 0, 0, face, [1, 1]], [-1])
        self.answers(put, [1, 1, 0, 0, face, []], [-1])
        self.answers(put, [1, 1, 0, 0, face, [1]], [-2])

    def test_there_already_before_too_many(self):
        full = face_of(1, 0, *[glyph_of(letter, 0, 0, ["#"]) for letter in range(4096)])
        self.assertEqual(put(7, 1, 0, 0, full, [1]), [-2])
        self.assertEqual(put(4095, 1, 0, 0, full, [1]), [-2])
        self.assertEqual(put(7, 1, 0, 0, full, [0]), [-6])
        self.assertEqual(put(7, 1, 0, 0, full, [0, 0]), [-1])
        self.assertEqual(put(0, 1, 0, 0, full, [2]), [-6])
        self.assertEqual(put(4095, 2, 0, 0, full, [2, 2]), [-6])

    def test_the_last_glyph_that_a_face_takes(self):
        face = face_of(1, 0, *[glyph_of(letter, 0, 0, ["#"]) for letter in range(4095)])
        taken = put(4095, 1, 0, 0, face, [1])
        self.assertEqual(taken[0], 0)
        self.assertEqual(judge(taken[2:]), [0, 1, 0, 4096])

    def test_what_differs_in_one_thing_is_not_there_already(self):
        face = face_of(2, 0, glyph_of(5, 6, 7, ["#.", "?#"]))
        self.answers(put, [5, 2, 6, 7, face, [1, 0, 2, 1]], [-2])
        for arguments in ([4, 2, 6, 7, face, [1, 0, 2, 1]], [5, 1, 6, 7, face, [1, 0]],
                          [5, 2, 5, 7, face, [1, 0, 2, 1]], [5, 2, 6, 8, face, [1, 0, 2, 1]],
                          [5, 2, 6, 7, face, [1, 0, 2, 2]], [5, 2, 6, 7, face, [1, 0, 0, 1]]):
            with self.subTest(arguments=arguments):
                self.assertEqual(judge(put(*arguments)[2:]), [0, 2, 0, 2])


if __name__ == "__main__":
    unittest.main()
