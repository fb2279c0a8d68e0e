"""A scan's form and its faults, read by wrong."""

import itertools
import unittest

from forms import SCAN_MARK, VERY_GREAT, FormTest, face_of, four, glyph_of, raw_scan, run, scan_of
from lettershapesdesk.faces import wrong

# Held against every point: one glyph wants ink there, the other paper.
PROBES = face_of(1, 0, glyph_of(1, 0, 0, ["."]), glyph_of(2, 0, 0, ["#"]))
SIGNS = {(0, 0): "?", (1, 0): "#", (0, 1): "."}


class ScanTest(FormTest):

    def faulty(self, scan, rule, place):
        self.answers(wrong, [0, 0, 0, PROBES, scan], [-5, 1, rule, place])

    def taken(self, scan):
        self.answers(wrong, [0, VERY_GREAT, 0, PROBES, scan], [-2])

    def tells(self, scan, rows):
        """Each point by itself, and nothing behind the last column and row."""
        told = ["".join(SIGNS[wrong(0, x, y, PROBES, scan)[1], wrong(1, x, y, PROBES, scan)[1]]
                        for x in range(len(rows[0]))) for y in range(len(rows))]
        self.assertEqual(told, rows)
        self.answers(wrong, [0, len(rows[0]), 0, PROBES, scan], [-2])
        self.answers(wrong, [0, 0, len(rows), PROBES, scan], [-2])


class WellFormed(ScanTest):

    def test_bytes_of_a_small_scan(self):
        self.tells([83, 72, 84, 49, 5, 0, 0, 0, 4, 0, 0, 0, 1, 64, 129, 255, 68, 255],
                   ["..#??", "..#??", "#####", "#####"])

    def test_one_point(self):
        for sign in "#.?":
            self.tells(raw_scan(1, 1, run(sign, 1)), [sign])

    def test_rows_of_one_run_and_of_several(self):
        rows = ["######", "......", "??????", "#.?#.?", "##..??", "#####.", ".#####"]
        self.tells(scan_of(rows), rows)

    def test_all_small_scans(self):
        for signs in itertools.product("#.?", repeat=4):
            text = "".join(signs)
            for rows in ([text], [text[:2], text[2:]], list(text)):
                self.tells(scan_of(rows), rows)

    def test_long_runs(self):
        for sign in "#.?":
            for count in (63, 64, 65, 127, 128, 129, 192, 200):
                for before, behind in (("", ""), ("", "x"), ("x", ""), ("xx", "x")):
                    other = "#" if sign == "." else "."
                    row = before.replace("x", other) + sign * count + behind.replace("x", other)
                    with self.subTest(sign=sign, count=count, before=before, behind=behind):
                        self.tells(scan_of([row]), [row])

    def test_a_long_run_is_told_as_full_ones_and_the_rest(self):
        self.tells(raw_scan(70, 1, run("#", 64), run("#", 6)), ["#" * 70])
        self.tells(raw_scan(128, 1, run("?", 64), run("?", 64)), ["?" * 128])

    def test_rows_the_same_as_the_one_above(self):
        rows = ["#.#", "#.#", "#.#", "...", "...", "#.#", "#.#"]
        scan = scan_of(rows)
        self.assertEqual(scan.count(255), 4)
        self.tells(scan, rows)

    def test_most_rows_and_most_columns_of_few_points(self):
        self.tells(scan_of(["#"] * 399 + ["."]), ["#"] * 399 + ["."])
        self.tells(scan_of(["#." * 200]), ["#." * 200])


class Mark(ScanTest):

    def test_each_byte_of_the_mark(self):
        for place in range(4):
            for byte in (0, 255, SCAN_MARK[place] - 1, SCAN_MARK[place] + 1):
                scan = scan_of(["#.", ".#"])
                scan[place] = byte
                with self.subTest(place=place, byte=byte):
                    self.faulty(scan, 1, place)
                    self.faulty(scan[:place + 1], 1, place)

    def test_marks_of_other_forms(self):
        self.faulty([83, 72, 70, 49] + [0] * 20, 1, 2)
        self.faulty([83, 72, 76, 49] + [0] * 20, 1, 2)

    def test_first_wrong_byte_tells(self):
        self.faulty([83, 0, 0, 0], 1, 1)
        self.faulty([83, 72, 84, 50] + four(0) + four(0), 1, 3)


class Sides(ScanTest):

    def test_width_out_of_its_bounds(self):
        for width in (0, 8193, 8192 + 256, 65536, 2 ** 24, 2 ** 32 - 1):
            with self.subTest(width=width):
                self.faulty(raw_scan(width, 0), 2, 4)
                self.faulty(raw_scan(width, 1, 0), 2, 4)
                self.faulty(SCAN_MARK + four(width), 2, 4)
                self.faulty(SCAN_MARK + four(width) + [1, 0, 0], 2, 4)

    def test_height_out_of_its_bounds(self):
        for height in (0, 8193, 65536, 2 ** 24, 2 ** 32 - 1):
            with self.subTest(height=height):
                self.faulty(raw_scan(1, height), 2, 8)
                self.faulty(raw_scan(1, height, 0), 2, 8)

    def test_each_byte_of_the_sides_counts(self):
        for place in (5, 6, 7, 9, 10, 11):
            scan = raw_scan(1, 1, 0)
            scan[place] = 128
            with self.subTest(place=place):
                self.faulty(scan, 2, 4 if place < 8 else 8)

    def test_sides_at_their_bounds(self):
        self.taken(raw_scan(8192, 1, *[run("#", 64)] * 128))
        self.taken(raw_scan(1, 8192, run("#", 1), *[255] * 8191))
        self.taken(raw_scan(8192, 2048, *[run("#", 64)] * 128, *[255] * 2047))
        self.taken(raw_scan(2048, 8192, *[run("#", 64)] * 32, *[255] * 8191))

    def test_more_points_than_there_may_be(self):
        for width, height in ((8192, 2049), (2049, 8192), (8192, 8192), (4097, 4096), (4096, 4097)):
            with self.subTest(width=width, height=height):
                self.faulty(raw_scan(width, height), 2, 8)
        for width, height in ((8192, 2048), (2048, 8192), (4096, 4096), (4097, 4095), (2050, 8184)):
            with self.subTest(width=width, height=height):
                self.faulty(raw_scan(width, height), 5, 12)

    def test_width_before_height(self):
        self.faulty(raw_scan(0, 0, 255), 2, 4)
        self.faulty(raw_scan(8193, 0, 255), 2, 4)
        self.faulty(raw_scan(1, 0, 255), 2, 8)


class NoRun(ScanTest):

    def test_bytes_that_are_no_run(self):
        for byte in (192, 193, 200, 254, 255):
            with self.subTest(byte=byte):
                self.faulty(raw_scan(3, 2, byte), 3, 12)
                self.faulty(raw_scan(3, 2, run("#", 2), byte, 255), 3, 13)
                self.faulty(raw_scan(3, 2, run("#", 3), run(".", 1), byte), 3, 14)
        for byte in (192, 193, 200, 254):
            with self.subTest(byte=byte):
                self.faulty(raw_scan(3, 2, run("#", 3), byte), 3, 13)

    def test_the_last_byte_that_is_a_run(self):
        self.tells(raw_scan(64, 1, 191), ["?" * 64])
        self.faulty(raw_scan(63, 1, 191), 4, 12)

    def test_no_row_above_the_first(self):
        self.faulty(raw_scan(1, 1, 255), 3, 12)
        self.faulty(raw_scan(1, 2, 255, 255), 3, 12)
        self.faulty(raw_scan(400, 1, 255), 3, 12)


class TooLongRuns(ScanTest):

    def test_one_point_more_than_the_row_has_left(self):
        for sign in "#.?":
            for width in (1, 2, 63):
                with self.subTest(sign=sign, width=width):
                    self.faulty(raw_scan(width, 2, run(sign, width + 1)), 4, 12)
                    self.faulty(raw_scan(width + 3, 1, run("#", 1), run(".", 2), run(sign, width + 1)), 4, 14)
                    self.faulty(raw_scan(width, 3, *scan_of(["#" * width])[12:], 255, run(sign, width + 1)), 4, 14)

    def test_many_more(self):
        self.faulty(raw_scan(1, 1, run("?", 64)), 4, 12)
        self.faulty(raw_scan(65, 1, run("#", 64), run("#", 2)), 4, 13)

    def test_a_run_does_not_reach_into_the_next_row(self):
        self.faulty(raw_scan(2, 2, run("#", 4)), 4, 12)
        self.faulty(raw_scan(2, 2, run("#", 1), run(".", 2), run("#", 1)), 4, 13)


class EndOfBytes(ScanTest):

    def test_every_length(self):
        for rows in (["#"], ["#.?", "#.?", "..."], ["#" * 130, "." * 130, "." * 130], ["#", "#", "#"]):
            scan = scan_of(rows)
            for length in range(len(scan)):
                with self.subTest(rows=rows, length=length):
                    self.faulty(scan[:length], 5, length)

    def test_half_of_a_side(self):
        self.faulty(SCAN_MARK + [255, 255, 255], 5, 7)
        self.faulty(SCAN_MARK + [0, 0, 0], 5, 7)
        self.faulty(SCAN_MARK + four(1) + [0, 0, 0], 5, 11)
        self.faulty(SCAN_MARK + four(1) + [255, 255], 5, 10)


class OneForm(ScanTest):

    def test_runs_that_tell_fewer_points_than_stand_there(self):
        self.faulty(raw_scan(2, 1, run("#", 1), run("#", 1)), 6, 12)
        self.faulty(raw_scan(5, 1, run(".", 1), run("#", 1), run("#", 2), run(".", 1)), 6, 12)
        self.faulty(raw_scan(3, 2, run("#", 3), run("?", 2), run("?", 1)), 6, 13)
        self.faulty(raw_scan(70, 1, run("#", 6), run("#", 64)), 6, 12)
        self.faulty(raw_scan(70, 1, run("#", 63), run("#", 7)), 6, 12)
        self.faulty(raw_scan(129, 1, run("#", 64), run("#", 1), run("#", 64)), 6, 12)

    def test_every_other_cut_of_a_long_run(self):
        for width in (65, 100, 128):
            for first in range(width - 64, 65):
                scan = raw_scan(width, 1, run("?", first), run("?", width - first))
                with self.subTest(width=width, first=first):
                    if first == 64:
                        self.taken(scan)
                    else:
                        self.faulty(scan, 6, 12)

    def test_runs_where_255_is_due(self):
        self.faulty(raw_scan(3, 2, run("#", 3), run("#", 3)), 6, 13)
        self.faulty(raw_scan(3, 2, run("#", 1), run(".", 2), run("#", 1), run(".", 2)), 6, 14)
        self.faulty(raw_scan(3, 3, run("#", 3), 255, run("#", 3)), 6, 14)
        self.faulty(raw_scan(3, 4, run("#", 3), run(".", 3), run("#", 3), run("#", 3)), 6, 15)

    def test_the_row_above_is_the_one_that_tells(self):
        self.tells(raw_scan(1, 4, run("#", 1), run(".", 1), run("#", 1), 255), ["#", ".", "#", "#"])

    def test_asked_behind_all_of_the_row(self):
        self.faulty(raw_scan(3, 1, run("#", 1), run("#", 1)), 5, 14)
        self.faulty(raw_scan(3, 1, run("#", 1), run("#", 1), 192), 3, 14)
        self.faulty(raw_scan(3, 1, run("#", 1), run("#", 1), run("#", 2)), 4, 14)
        self.faulty(raw_scan(3, 1, run("#", 1), run("#", 1), 255), 3, 14)

    def test_before_what_comes_behind_the_row(self):
        split = [run("#", 1), run("#", 1)]
        self.faulty(raw_scan(2, 1, *split, 0), 6, 12)
        self.faulty(raw_scan(2, 2, *split), 6, 12)
        self.faulty(raw_scan(2, 2, *split, 192), 6, 12)
        self.faulty(raw_scan(2, 2, *split, run("#", 3)), 6, 12)
        self.faulty(raw_scan(2, 2, *split, *split), 6, 12)

    def test_each_row_is_asked(self):
        for row in range(4):
            told = [[run("#", 2)], [run(".", 2)], [run("?", 2)], [run("#", 2)]]
            told[row] = [told[row][0] - 1] * 2
            with self.subTest(row=row):
                self.faulty(raw_scan(2, 4, *itertools.chain(*told)), 6, 12 + row)


class LeftOver(ScanTest):

    def test_one_byte_and_many(self):
        for rows in (["#"], ["#.?", "#.?"], ["." * 100] * 4):
            scan = scan_of(rows)
            for rest in ([0], [255], [192], SCAN_MARK, [0] * 1000):
                with self.subTest(rows=rows, rest=rest):
                    self.faulty(scan + rest, 7, len(scan))

    def test_fewer_rows_told_than_there_are(self):
        scan = scan_of(["#", ".", "#"])
        scan[8] = 2
        self.faulty(scan, 7, 14)


if __name__ == "__main__":
    unittest.main()
