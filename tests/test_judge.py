"""Call 1, judge, and with it a face's form and its faults."""

import unittest

from forms import FormTest, MARK, face_of, glyph_of, raw_glyph, two
from lettershapesdesk.faces import judge

EDGES = (1, 7, 8, 9, 16, 63, 64)


class JudgeTest(FormTest):

    def judged(self, face, *expected):
        self.answers(judge, [face], [0] + list(expected))

    def faulty(self, face, rule, place):
        self.answers(judge, [face], [-5, 0, rule, place])


def some_face():
    """Three glyphs, each with a row of more than one byte but the first."""
    return face_of(2, 300, glyph_of(1, 4, 5, ["#.?", "..#"]), glyph_of(1, 0, 0, ["#.?#.?#.?", "." * 9]),
                   glyph_of(700, 4096, 4095, ["?#" * 10, ".?" * 10]))


class WellFormed(JudgeTest):

    def test_no_glyph(self):
        self.judged(face_of(12, 345), 12, 345, 0)

    def test_one_glyph(self):
        self.judged(face_of(2, 7, glyph_of(65, 1, 2, ["#.", "?#"])), 2, 7, 1)

    def test_several_glyphs(self):
        self.judged(some_face(), 2, 300, 3)

    def test_twenty_glyphs(self):
        self.judged(face_of(1, 0, *[glyph_of(n, 0, 0, ["#"]) for n in range(20)]), 1, 0, 20)

    def test_widths_at_the_edges_of_a_byte(self):
        for width in EDGES:
            for height in (1, 2, 3, 64):
                with self.subTest(width=width, height=height):
                    for sign in "#.?":
                        self.judged(face_of(height, 0, glyph_of(1, 0, 0, [sign * width] * height)), height, 0, 1)

    def test_longest_face(self):
        rows = ["#.?#" * 16] * 64
        glyphs = [glyph_of(n, 0, 0, rows) for n in range(20)]
        self.judged(face_of(64, 4095, *glyphs), 64, 4095, 20)


class Mark(JudgeTest):

    def test_each_byte_of_the_mark(self):
        for place in range(4):
            for byte in (0, 255, MARK[place] - 1, MARK[place] + 1):
                face = some_face()
                face[place] = byte
                with self.subTest(place=place, byte=byte):
                    self.faulty(face, 1, place)
                    self.faulty(face[:place + 1], 1, place)

    def test_marks_of_other_forms(self):
        self.faulty([83, 72, 84, 49] + [0] * 20, 1, 2)
        self.faulty([83, 72, 76, 49] + [0] * 20, 1, 2)

    def test_first_wrong_byte_tells(self):
        self.faulty([83, 0, 0, 0], 1, 1)
        self.faulty([0] * 30, 1, 0)


class HeadNumbers(JudgeTest):

    def test_height(self):
        for height in (1, 2, 63, 64):
            self.judged(face_of(height, 0), height, 0, 0)
        for height in (0, 65, 128, 255):
            with self.subTest(height=height):
                self.faulty(face_of(height, 0), 2, 4)
                self.faulty(MARK + [height], 2, 4)

    def test_cost_of_a_wrong_point(self):
        for cost in (0, 1, 255, 256, 4094, 4095):
            self.judged(face_of(1, cost), 1, cost, 0)
        for cost in (4096, 4097, 0xFFFF):
            with self.subTest(cost=cost):
                self.faulty(face_of(1, cost), 2, 5)
                self.faulty(MARK + [1] + two(cost), 2, 5)

    def test_how_many_glyphs(self):
        for count in (1, 20, 255, 256, 4095, 4096):
            with self.subTest(count=count):
                self.faulty(MARK + [1, 0, 0] + two(count), 5, 9)
        for count in (4097, 8192, 0xFFFF):
            with self.subTest(count=count):
                self.faulty(MARK + [1, 0, 0] + two(count), 2, 7)

    def test_most_glyphs(self):
        glyphs = [glyph_of(n, 0, 0, ["#"]) for n in range(4096)]
        self.judged(face_of(1, 0, *glyphs), 1, 0, 4096)

    def test_height_before_cost_before_count(self):
        self.faulty(MARK + [0] + two(4096) + two(4097), 2, 4)
        self.faulty(MARK + [1] + two(4096) + two(4097), 2, 5)
        self.faulty(MARK + [1] + two(4095) + two(4097), 2, 7)

    def test_mark_before_height(self):
        self.faulty([83, 72, 70, 50, 0], 1, 3)


class GlyphNumbers(JudgeTest):

    def second(self, **numbers):
        """A face whose second glyph begins at 18 with these numbers."""
        return face_of(1, 0, raw_glyph(0), raw_glyph(**numbers))

    def test_letter(self):
        for letter in (1, 255, 256, 4094, 4095):
            self.judged(self.second(letter=letter), 1, 0, 2)
        for letter in (4096, 4097, 0xFFFF):
            with self.subTest(letter=letter):
                self.faulty(self.second(letter=letter), 3, 18)
        self.judged(face_of(1, 0, raw_glyph(letter=0)), 1, 0, 1)
        self.faulty(face_of(1, 0, raw_glyph(letter=4096)), 3, 9)

    def test_width(self):
        for width in EDGES:
            zeros = [0] * ((width + 7) // 8)
            self.judged(self.second(width=width, ink=zeros, paper=zeros), 1, 0, 2)
        for width in (0, 65, 128, 255):
            with self.subTest(width=width):
                self.faulty(self.second(width=width), 3, 20)

    def test_budget(self):
        for budget in (0, 1, 255, 256, 4095, 4096):
            self.judged(self.second(budget=budget), 1, 0, 2)
        for budget in (4097, 4352, 0xFFFF):
            with self.subTest(budget=budget):
                self.faulty(self.second(budget=budget), 3, 21)

    def test_cost(self):
        for cost in (0, 1, 255, 256, 4095):
            self.judged(self.second(cost=cost), 1, 0, 2)
        for cost in (4096, 4097, 0xFFFF):
            with self.subTest(cost=cost):
                self.faulty(self.second(cost=cost), 3, 23)

    def test_the_first_of_several_tells(self):
        self.faulty(self.second(letter=4096, width=0, budget=4097, cost=4096), 3, 18)
        self.faulty(self.second(letter=4095, width=65, budget=4097, cost=4096), 3, 20)
        self.faulty(self.second(letter=4095, budget=4097, cost=4096), 3, 21)
        self.faulty(self.second(letter=4095, cost=4096, ink=[255]), 3, 23)

    def test_number_out_of_bounds_though_the_bytes_end_behind_it(self):
        for count, place, numbers in ((20, 18, {"letter": 4096}), (21, 20, {"width": 0}),
                                      (23, 21, {"budget": 4097}), (25, 23, {"cost": 4096})):
            with self.subTest(place=place):
                self.faulty(self.second(**numbers)[:count], 3, place)
                # Half of a number is no number yet.
                if place != 20:
                    self.faulty(self.second(**numbers)[:count - 1], 5, count - 1)


class BitsBehind(JudgeTest):

    def test_each_byte_of_each_plane(self):
        height = 3
        for width in (1, 7, 9, 15, 17, 63):
            size = (width + 7) // 8
            for plane in (0, 1):
                for row in range(height):
                    for bit in range(width - 8 * (size - 1), 8):
                        face = face_of(height, 0, raw_glyph(1, width, 0, 0, [0] * size * height, [0] * size * height))
                        place = 16 + (plane * height + row + 1) * size - 1
                        face[place] = 1 << bit
                        with self.subTest(width=width, plane=plane, row=row, bit=bit):
                            self.faulty(face, 4, place)
                            self.faulty(face[:place + 1], 4, place)

    def test_last_column_is_not_behind(self):
        for width in EDGES + (15, 17):
            rows = ["?" * (width - 1) + "#", "?" * (width - 1) + "."]
            with self.subTest(width=width):
                self.judged(face_of(2, 0, glyph_of(1, 0, 0, rows)), 2, 0, 1)

    def test_in_a_later_glyph(self):
        self.faulty(face_of(1, 0, raw_glyph(1), raw_glyph(2, ink=[2])), 4, 25)
        self.faulty(face_of(1, 0, raw_glyph(1), raw_glyph(2, paper=[2])), 4, 26)

    def test_the_first_of_several_tells(self):
        self.faulty(face_of(2, 0, raw_glyph(1, 1, 0, 0, [0, 2], [128, 128])), 4, 17)
        self.faulty(face_of(2, 0, raw_glyph(1, 1, 0, 0, [0, 0], [0, 128])), 4, 19)


class PointsThatMustBeBoth(JudgeTest):

    def test_each_point(self):
        height = 3
        for width in EDGES:
            size = (width + 7) // 8
            for row in range(height):
                for column in range(width):
                    bits = [0] * size * height
                    bits[row * size + column // 8] = 1 << column % 8
                    with self.subTest(width=width, row=row, column=column):
                        face = face_of(height, 0, raw_glyph(1, width, 0, 0, bits, bits))
                        self.faulty(face, 4, 16 + (height + row) * size)

    def test_the_first_such_row_tells(self):
        self.faulty(face_of(3, 0, raw_glyph(1, 8, 0, 0, [1, 3, 255], [2, 2, 255])), 4, 20)

    def test_same_bits_in_other_rows_or_bytes_are_no_fault(self):
        self.judged(face_of(2, 0, raw_glyph(1, 16, 0, 0, [5, 0, 0, 5], [0, 5, 5, 0])), 2, 0, 1)

    def test_asked_behind_both_planes(self):
        bits_behind = face_of(2, 0, raw_glyph(1, 1, 0, 0, [1, 0], [1, 2]))
        self.faulty(bits_behind, 4, 19)
        both = face_of(2, 0, raw_glyph(1, 1, 0, 0, [1, 0], [1, 0]))
        self.faulty(both, 4, 18)
        self.faulty(both[:-1], 5, 19)

    def test_before_what_comes_behind_the_glyph(self):
        both = raw_glyph(1, ink=[1], paper=[1])
        self.faulty(face_of(1, 0, both) + [0], 4, 17)
        self.faulty(face_of(1, 0, both, raw_glyph(letter=4096)), 4, 17)
        self.faulty(face_of(1, 0, raw_glyph(2), both), 4, 26)


class EndOfBytes(JudgeTest):

    def test_every_length(self):
        for face in (face_of(9, 9), some_face(), face_of(64, 0, glyph_of(3, 0, 0, ["#" * 64] * 64))):
            for length in range(len(face)):
                with self.subTest(length=length):
                    self.faulty(face[:length], 5, length)

    def test_more_glyphs_told_than_there_are(self):
        face = some_face()
        face[7] = 4
        self.faulty(face, 5, len(face))

    def test_half_of_a_number(self):
        self.faulty(MARK + [1, 255], 5, 6)
        self.faulty(MARK + [1, 0, 0, 255], 5, 8)


class Rising(JudgeTest):

    def pair(self, before, after):
        """The first glyph is the lesser: so it is taken, the other way round and twice it is not."""
        place = 9 + len(after)
        self.judged(face_of(1, 0, before, after), 1, 0, 2)
        self.faulty(face_of(1, 0, after, before), 6, place)
        self.faulty(face_of(1, 0, after, after), 6, place)

    def test_by_letter(self):
        self.pair(raw_glyph(1, 9, 9, 9, [9, 0], [0, 0]), raw_glyph(2, 1, 0, 0))

    def test_letter_counts_by_its_value(self):
        self.pair(raw_glyph(255), raw_glyph(256))
        self.pair(raw_glyph(1), raw_glyph(256))

    def test_by_width(self):
        self.pair(raw_glyph(1, 7, 4096, 4095, [127], [0]), raw_glyph(1, 8))
        self.pair(raw_glyph(1, 8, 4096, 4095, [127], [0]), raw_glyph(1, 9, 0, 0, [0, 0], [0, 0]))

    def test_by_budget_as_it_is_written(self):
        self.pair(raw_glyph(budget=1), raw_glyph(budget=2))
        self.pair(raw_glyph(budget=1), raw_glyph(budget=257))
        self.pair(raw_glyph(budget=256), raw_glyph(budget=1))
        self.pair(raw_glyph(budget=4096), raw_glyph(budget=255))

    def test_by_cost_as_it_is_written(self):
        self.pair(raw_glyph(budget=3, cost=1), raw_glyph(budget=3, cost=2))
        self.pair(raw_glyph(budget=3, cost=256), raw_glyph(budget=3, cost=1))
        self.pair(raw_glyph(budget=3, cost=1), raw_glyph(budget=3, cost=257))
        self.pair(raw_glyph(budget=3, cost=4095), raw_glyph(budget=4, cost=0))

    def test_by_planes(self):
        self.pair(raw_glyph(cost=1, ink=[1], paper=[0]), raw_glyph(cost=2, ink=[0], paper=[0]))
        self.pair(raw_glyph(ink=[0], paper=[1]), raw_glyph(ink=[1], paper=[0]))
        self.pair(raw_glyph(width=8, ink=[4], paper=[1]), raw_glyph(width=8, ink=[4], paper=[2]))
        self.pair(raw_glyph(width=16, ink=[0, 9], paper=[0, 0]), raw_glyph(width=16, ink=[1, 0], paper=[0, 0]))

    def test_by_the_last_byte_of_all(self):
        lesser = raw_glyph(1, 8, 0, 0, [1, 2, 3], [0, 0, 4])
        greater = raw_glyph(1, 8, 0, 0, [1, 2, 3], [0, 0, 8])
        self.judged(face_of(3, 0, lesser, greater), 3, 0, 2)
        self.faulty(face_of(3, 0, greater, lesser), 6, 22)

    def test_each_is_asked_against_the_one_before(self):
        self.faulty(face_of(1, 0, raw_glyph(1), raw_glyph(5), raw_glyph(3)), 6, 27)
        self.faulty(face_of(1, 0, raw_glyph(1), raw_glyph(5), raw_glyph(6), raw_glyph(6)), 6, 36)

    def test_asked_behind_all_of_the_glyph(self):
        sinking = face_of(1, 0, raw_glyph(2), raw_glyph(1))
        self.faulty(sinking, 6, 18)
        self.faulty(sinking[:-1], 5, 26)
        self.faulty(face_of(1, 0, raw_glyph(2), raw_glyph(1, cost=4096)), 3, 23)
        self.faulty(face_of(1, 0, raw_glyph(2), raw_glyph(1, paper=[2])), 4, 26)

    def test_before_what_comes_behind_the_glyph(self):
        self.faulty(face_of(1, 0, raw_glyph(2), raw_glyph(1)) + [0], 6, 18)
        self.faulty(face_of(1, 0, raw_glyph(2), raw_glyph(1), raw_glyph(4096)), 6, 18)
        more_told = face_of(1, 0, raw_glyph(2), raw_glyph(1))
        more_told[7] = 3
        self.faulty(more_told, 6, 18)


class LeftOver(JudgeTest):

    def test_one_byte_and_many(self):
        for face in (face_of(1, 0), some_face()):
            for rest in ([0], [255], MARK, raw_glyph(4000), [0] * 1000):
                with self.subTest(rest=rest):
                    self.faulty(face + rest, 7, len(face))

    def test_fewer_glyphs_told_than_there_are(self):
        first, second = raw_glyph(1), raw_glyph(2)
        face = face_of(1, 0, first, second)
        face[7] = 1
        self.faulty(face, 7, 18)


if __name__ == "__main__":
    unittest.main()
