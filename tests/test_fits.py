"""Call 7, fits; of promise 3."""

import itertools
import random
import unittest

from forms import FormTest, VERY_GREAT, face_of, glyph_of, raw_scan, run, scan_of
from lettershapesdesk.faces import fits, wrong

# Seeded, so that every run asks the same.
LOT = random.Random(7)


def places_of(glyphs, scan, x0, y0, x1, y1):
    """The same by the words of the document: glyphs are (budget, rows), all over texts."""
    told = []
    for y, x, (k, (budget, rows)) in itertools.product(range(y0, y1), range(x0, x1), enumerate(glyphs)):
        if x + len(rows[0]) <= x1 and y + len(rows) <= y1:
            pairs = [(point, scan[y + j][x + i]) for j, row in enumerate(rows) for i, point in enumerate(row)]
            count = pairs.count(("#", ".")) + pairs.count((".", "#"))
            if count <= budget:
                told += [x, y, k, count]
    return told


def face_with(glyphs):
    """A face of these glyphs in this order, their letters rising."""
    return face_of(len(glyphs[0][1]), 0, *[glyph_of(k, budget, 0, rows) for k, (budget, rows) in enumerate(glyphs)])


class FitsTest(FormTest):

    def told(self, box, glyphs, scan, *places):
        numbers = [number for place in places for number in place]
        self.answers(fits, list(box) + [face_with(glyphs), scan_of(scan)], [0, len(numbers)] + numbers)
        self.assertEqual(places_of(glyphs, scan, *box), numbers)


class Places(FitsTest):

    def test_no_place(self):
        self.told((0, 0, 3, 2), [(0, ["##"])], ["#.#", ".#."])

    def test_no_glyph(self):
        self.answers(fits, [0, 0, 2, 1, face_of(1, 0), scan_of(["##"])], [0, 0])

    def test_one_place(self):
        self.told((0, 0, 3, 2), [(0, ["#.#"])], ["#.#", ".#."], (0, 0, 0, 0))

    def test_by_row_then_by_column_then_by_glyph(self):
        glyphs = [(1, ["#"]), (0, ["."]), (1, ["."]), (0, ["##"])]
        self.told((0, 0, 2, 2), glyphs, ["#.", "##"],
                  (0, 0, 0, 0), (0, 0, 2, 1), (1, 0, 0, 1), (1, 0, 1, 0), (1, 0, 2, 0),
                  (0, 1, 0, 0), (0, 1, 2, 1), (0, 1, 3, 0), (1, 1, 0, 0), (1, 1, 2, 1))

    def test_places_overlap(self):
        self.told((0, 0, 4, 1), [(0, ["??"])], ["#.?#"], (0, 0, 0, 0), (1, 0, 0, 0), (2, 0, 0, 0))

    def test_as_wide_and_as_high_as_the_box(self):
        self.told((1, 1, 3, 3), [(0, ["##", "##"])], ["....", ".##.", ".##.", "...."], (1, 1, 0, 0))

    def test_wider_or_higher_than_the_box(self):
        scan = ["#####"] * 5
        wide, high = [(9, ["###"])], [(9, ["#", "#", "#"])]
        self.told((1, 1, 3, 4), wide, scan)
        self.told((1, 1, 4, 3), high, scan)
        self.told((1, 1, 4, 2), wide, scan, (1, 1, 0, 0))
        self.told((1, 1, 2, 4), high, scan, (1, 1, 0, 0))
        self.told((0, 0, 5, 1), [(9, ["######"])], scan)
        self.told((0, 0, 5, 5), [(9, ["#"] * 6)], scan)
        self.told((0, 0, 5, 5), [(4096, ["#" * 64] * 64)], scan)

    def test_narrow_glyphs_reach_further_right_than_wide_ones(self):
        self.told((0, 0, 3, 1), [(0, ["#"]), (0, ["##"]), (0, ["###"])], ["###"],
                  (0, 0, 0, 0), (0, 0, 1, 0), (0, 0, 2, 0), (1, 0, 0, 0), (1, 0, 1, 0), (2, 0, 0, 0))

    def test_budget_met_just_so_and_missed_by_one(self):
        scan = ["...", ".#."]
        for budget, places in ((4, ()), (5, ((0, 0, 0, 5),)), (6, ((0, 0, 0, 5),))):
            with self.subTest(budget=budget):
                self.told((0, 0, 3, 2), [(budget, ["###", "###"])], scan, *places)

    def test_unclear_is_never_wrong(self):
        self.told((0, 0, 3, 1), [(0, ["#.#"])], ["???"], (0, 0, 0, 0))

    def test_points_outside_the_box_do_not_count(self):
        self.told((1, 0, 3, 1), [(0, ["##"])], ["####"], (1, 0, 0, 0))

    def test_every_box_of_a_scan(self):
        scan = ["#.?#", "..##", "#?.#"]
        glyphs = [(0, ["#", "?"]), (1, ["#.", ".#"]), (2, ["###", "..."])]
        face, form = face_with(glyphs), scan_of(scan)
        for x0, x1 in itertools.combinations_with_replacement(range(5), 2):
            for y0, y1 in itertools.combinations_with_replacement(range(4), 2):
                numbers = places_of(glyphs, scan, x0, y0, x1, y1)
                with self.subTest(x0=x0, y0=y0, x1=x1, y1=y1):
                    self.answers(fits, [x0, y0, x1, y1, face, form], [0, len(numbers)] + numbers)

    def test_agrees_with_wrong_at_each_place(self):
        for turn in range(40):
            width, height, high = LOT.randint(1, 12), LOT.randint(1, 8), LOT.randint(1, 4)
            scan = ["".join(LOT.choices("#.?", (4, 4, 1), k=width)) for row in range(height)]
            glyphs = [(LOT.randint(0, 6), ["".join(LOT.choices("#.?", k=wide)) for row in range(high)])
                      for wide in LOT.choices(range(1, 6), k=LOT.randint(1, 6))]
            face, form = face_with(glyphs), scan_of(scan)
            expected = []
            for y, x, k in itertools.product(range(height), range(width), range(len(glyphs))):
                count = wrong(k, x, y, face, form)
                if count != [-2] and count[1] <= glyphs[k][0]:
                    expected += [x, y, k, count[1]]
            with self.subTest(turn=turn):
                self.answers(fits, [0, 0, width, height, face, form], [0, len(expected)] + expected)
                self.assertEqual(expected, places_of(glyphs, scan, 0, 0, width, height))

    def test_most_points_and_most_glyphs(self):
        scan = ["#.?#." * 4, "..#?#" * 4] * 10
        glyphs = [(4 * k, ["#.?#." * 2] * 10) for k in range(20)]
        numbers = places_of(glyphs, scan, 0, 0, 20, 20)
        self.assertGreater(len(numbers), 100)
        self.answers(fits, [0, 0, 20, 20, face_with(glyphs), scan_of(scan)], [0, len(numbers)] + numbers)


class Boxes(FitsTest):

    face = face_of(1, 0, glyph_of(1, 0, 0, ["#"]))
    scan = scan_of(["###", "###"])

    def test_empty_boxes(self):
        for x0, y0, x1, y1 in ((0, 0, 0, 0), (0, 0, 0, 2), (0, 0, 3, 0), (3, 2, 3, 2), (1, 0, 1, 2), (0, 1, 3, 1),
                               (3, 0, 3, 2), (0, 2, 3, 2)):
            with self.subTest(x0=x0, y0=y0, x1=x1, y1=y1):
                self.answers(fits, [x0, y0, x1, y1, self.face, self.scan], [0, 0])

    def test_the_whole_scan(self):
        places = [0, 0, 0, 0, 1, 0, 0, 0, 2, 0, 0, 0, 0, 1, 0, 0, 1, 1, 0, 0, 2, 1, 0, 0]
        self.answers(fits, [0, 0, 3, 2, self.face, self.scan], [0, 24] + places)

    def test_boxes_that_are_not_in_the_scan(self):
        for x0, y0, x1, y1 in ((2, 0, 1, 2), (3, 0, 2, 2), (1, 0, 0, 0), (0, 2, 3, 1), (0, 1, 3, 0), (0, 0, 4, 2),
                               (0, 0, 3, 3), (4, 0, 4, 2), (0, 3, 3, 3), (4, 0, 3, 2), (0, 3, 3, 2)):
            with self.subTest(x0=x0, y0=y0, x1=x1, y1=y1):
                self.answers(fits, [x0, y0, x1, y1, self.face, self.scan], [-2])

    def test_very_great_boxes(self):
        for great in (256, 2 ** 32, 2 ** 63, VERY_GREAT):
            for place in range(4):
                box = [0, 0, 3, 2]
                box[place] = great
                with self.subTest(great=great, place=place):
                    self.answers(fits, box + [self.face, self.scan], [-2])
            self.answers(fits, [great, great, great, great, self.face, self.scan], [-2])
            self.answers(fits, [0, 0, great, great, face_of(1, 0), self.scan], [-2])

    def test_columns_and_rows_are_not_taken_for_one_another(self):
        self.answers(fits, [0, 0, 2, 3, self.face, self.scan], [-2])


class Refusals(FitsTest):

    face = face_of(1, 0, glyph_of(1, 0, 0, ["#"]))
    scan = scan_of(["#"])

    def test_forms_before_the_box(self):
        for box in ([0, 0, 1, 1], [1, 0, 0, 1], [0, 0, VERY_GREAT, VERY_GREAT]):
            with self.subTest(box=box):
                self.answers(fits, box + [self.face + [0], self.scan], [-5, 0, 7, 18])
                self.answers(fits, box + [self.face, self.scan + [0]], [-5, 1, 7, 13])
                self.answers(fits, box + [self.face[:-1], self.scan + [0]], [-5, 0, 5, 17])
                self.answers(fits, box + [self.face, raw_scan(2, 1, run("#", 1), run("#", 1))], [-5, 1, 6, 12])
                self.answers(fits, box + [self.scan, self.face], [-5, 0, 1, 2])
                self.answers(fits, box + [[], []], [-5, 0, 5, 0])


if __name__ == "__main__":
    unittest.main()
