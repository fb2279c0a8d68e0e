"""Call 14, learnt."""

import unittest

from forms import FormTest, VERY_GREAT, face_of, glyph_of, raw_seen, scan_of, seen_of
from lettershapesdesk.faces import glyph, judge, learnt, unseen


class LearntTest(FormTest):

    def gives(self, arguments, form):
        self.answers(learnt, arguments, [0, len(form)] + form)


class TheGlyph(LearntTest):

    def test_each_kind_of_place(self):
        for sign, point in (("#", "#"), (".", "."), ("?", "?"), ("x", "?")):
            with self.subTest(sign=sign):
                budget = 4 if sign == "x" else 5
                self.gives([7, face_of(1, 9), seen_of(3, 5, 2, [sign])],
                           face_of(1, 9, glyph_of(3, budget, 7, [point])))

    def test_bytes_of_a_learnt_glyph(self):
        self.gives([0x0203, [83, 72, 70, 49, 1, 0, 0, 0, 0], seen_of(0x0104, 0x0105, 2, ["#.?x"])],
                   [83, 72, 70, 49, 1, 0, 0, 1, 0, 4, 1, 4, 4, 1, 3, 2, 1, 2])

    def test_widths_at_the_edges_of_a_byte(self):
        for width in (1, 7, 8, 9, 16, 63, 64):
            for height in (1, 3, 64):
                rows = [("#.x?" * 17)[row % 4:row % 4 + width] for row in range(height)]
                count = sum(row.count("x") for row in rows)
                free = [row.replace("x", "?") for row in rows]
                with self.subTest(width=width, height=height):
                    self.gives([1, face_of(height, 0), seen_of(2, 4096, 3, rows)],
                               face_of(height, 0, glyph_of(2, 4096 - count, 1, free)))

    def test_nothing_seen(self):
        self.gives([0, face_of(2, 0), unseen(5, 3, 2, 4)[2:]], face_of(2, 0, glyph_of(5, 4, 0, ["???"] * 2)))

    def test_torn_places_and_the_budget(self):
        for count in range(5):
            rows = ["x" * count + "#" * (4 - count), "...."]
            for leeway in range(6):
                arguments = [0, face_of(2, 0), seen_of(5, leeway, 2, rows)]
                with self.subTest(count=count, leeway=leeway):
                    if count > leeway:
                        self.answers(learnt, arguments, [-3])
                    else:
                        points = [rows[0].replace("x", "?"), rows[1]]
                        self.gives(arguments, face_of(2, 0, glyph_of(5, leeway - count, 0, points)))

    def test_all_places_of_a_great_letter_are_torn(self):
        rows = ["x" * 64] * 64
        self.gives([0, face_of(64, 0), seen_of(5, 4096, 2, rows)], face_of(64, 0, glyph_of(5, 0, 0, ["?" * 64] * 64)))
        self.answers(learnt, [0, face_of(64, 0), seen_of(5, 4095, 2, rows)], [-3])

    def test_how_many_samples_does_not_count(self):
        for samples in (1, 2, 4096):
            self.gives([0, face_of(1, 0), seen_of(5, 1, samples, ["#.x"])],
                       face_of(1, 0, glyph_of(5, 0, 0, ["#.?"])))


class TheFace(LearntTest):

    def test_ahead_between_behind(self):
        glyphs = [glyph_of(letter, 1, 2, ["#?"]) for letter in (10, 20, 30)]
        for k in range(3):
            others = face_of(1, 300, *glyphs[:k], *glyphs[k + 1:])
            with self.subTest(k=k):
                self.gives([2, others, seen_of(10 * k + 10, 1, 5, ["#?"])], face_of(1, 300, *glyphs))

    def test_beside_glyphs_of_the_same_letter(self):
        glyphs = [glyph_of(9, 256, 0, ["#?"]), glyph_of(9, 1, 2, [".?"]), glyph_of(9, 1, 2, ["#?"]),
                  glyph_of(9, 1, 2, ["##"]), glyph_of(9, 0, 0, ["???"])]
        others = face_of(1, 0, *glyphs[:2], *glyphs[3:])
        self.gives([2, others, seen_of(9, 2, 5, ["#x"])], face_of(1, 0, *glyphs))

    def test_there_already(self):
        face = face_of(1, 0, glyph_of(5, 0, 0, ["#"]), glyph_of(9, 1, 2, ["#?"]))
        self.answers(learnt, [2, face, seen_of(9, 1, 5, ["#?"])], [-2])
        self.answers(learnt, [2, face, seen_of(9, 2, 5, ["#x"])], [-2])
        for arguments in ([1, face, seen_of(9, 1, 5, ["#?"])], [2, face, seen_of(8, 1, 5, ["#?"])],
                          [2, face, seen_of(9, 2, 5, ["#?"])], [2, face, seen_of(9, 1, 5, ["##"])],
                          [2, face, seen_of(9, 1, 5, ["#??"])], [2, face, seen_of(9, 1, 5, ["#x"])]):
            with self.subTest(arguments=arguments):
                self.assertEqual(judge(learnt(*arguments)[2:]), [0, 1, 0, 3])

    def test_too_many(self):
        full = face_of(1, 0, *[glyph_of(letter, 0, 0, ["#"]) for letter in range(4096)])
        self.assertEqual(learnt(0, full, seen_of(7, 0, 1, ["."])), [-6])
        self.assertEqual(learnt(0, full, seen_of(7, 0, 1, ["#"])), [-2])
        self.assertEqual(learnt(0, full, seen_of(7, 0, 2, ["x"])), [-3])
        fewer = face_of(1, 0, *[glyph_of(letter, 0, 0, ["#"]) for letter in range(4095)])
        self.assertEqual(judge(learnt(0, fewer, seen_of(7, 0, 1, ["."]))[2:]), [0, 1, 0, 4096])


class Cost(LearntTest):

    def test_at_its_bounds(self):
        for cost in (0, 1, 255, 256, 4094, 4095):
            with self.subTest(cost=cost):
                self.gives([cost, face_of(1, 3), seen_of(1, 0, 1, ["#"])],
                           face_of(1, 3, glyph_of(1, 0, cost, ["#"])))

    def test_beyond(self):
        for cost in (4096, 4097, 65536, 2 ** 32, VERY_GREAT):
            with self.subTest(cost=cost):
                self.answers(learnt, [cost, face_of(1, 3), seen_of(1, 0, 1, ["#"])], [-1])


class Refusals(LearntTest):

    face = face_of(2, 0, glyph_of(1, 0, 0, ["#", "#"]))
    seen = seen_of(2, 0, 1, ["#.", ".#"])

    def test_another_height(self):
        for height in (1, 3, 64):
            with self.subTest(height=height):
                self.answers(learnt, [0, face_of(height, 0), self.seen], [-2])
                self.answers(learnt, [0, self.face, seen_of(2, 0, 1, ["#."] * height)], [-2])

    def test_which_form(self):
        self.answers(learnt, [0, self.face + [0], self.seen], [-5, 0, 7, len(self.face)])
        self.answers(learnt, [0, self.face, self.seen + [0]], [-5, 1, 7, len(self.seen)])
        self.answers(learnt, [0, self.seen, self.face], [-5, 0, 1, 2])
        self.answers(learnt, [0, self.face, self.face], [-5, 1, 1, 2])
        self.answers(learnt, [0, self.face, scan_of(["#"])], [-5, 1, 1, 2])

    def test_the_cost_before_the_forms(self):
        self.answers(learnt, [4096, [], []], [-1])
        self.answers(learnt, [4096, self.face, []], [-1])
        self.answers(learnt, [VERY_GREAT, face_of(1, 0), seen_of(2, 0, 2, ["x", "x"])], [-1])

    def test_the_first_form_before_the_second(self):
        self.answers(learnt, [4095, self.face[:-1], []], [-5, 0, 5, len(self.face) - 1])

    def test_forms_before_the_height(self):
        self.answers(learnt, [0, face_of(65, 0), self.seen], [-5, 0, 2, 4])
        self.answers(learnt, [0, face_of(3, 0), self.seen[:-1]], [-5, 1, 5, len(self.seen) - 1])
        self.answers(learnt, [0, face_of(3, 0), raw_seen(1, 1, 1, 0, 0, 1, 0)], [-5, 1, 4, 12])

    def test_the_height_before_the_letter(self):
        self.answers(learnt, [0, face_of(1, 0), seen_of(2, 0, 2, ["x", "x"])], [-2])
        self.answers(learnt, [0, face_of(2, 0), seen_of(2, 0, 2, ["x", "x"])], [-3])

    def test_the_learnt_glyph_is_there(self):
        told = learnt(4, self.face, self.seen)
        self.assertEqual(glyph(1, told[2:]), [0, 2, 2, 0, 4, 4, 1, 0, 0, 1])


if __name__ == "__main__":
    unittest.main()
