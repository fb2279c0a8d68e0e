"""The form of what was seen and its faults, read by join as the first and the second form, and by add."""

import unittest

from forms import SEEN_MARK, FormTest, raw_seen, scan_of, seen_of, two
from lettershapesdesk.faces import add, join, unseen

EDGES = (1, 7, 8, 9, 16, 63, 64)
SCAN = scan_of(["#"])


class SeenTest(FormTest):

    def faulty(self, seen, rule, place):
        nothing = unseen(1, 1, 1, 0)[2:]
        self.answers(join, [seen, nothing], [-5, 0, rule, place])
        self.answers(join, [nothing, seen], [-5, 1, rule, place])
        self.answers(add, [0, 0, seen, SCAN], [-5, 0, rule, place])

    def taken(self, seen):
        """Joined with nothing that was seen of the same letter, it's written as the same bytes."""
        size = (len(seen) - 12) // 2
        nothing = seen[:10] + [0, 0] + [0] * (2 * size)
        self.answers(join, [seen, nothing], [0, len(seen)] + seen)
        self.answers(join, [nothing, seen], [0, len(seen)] + seen)


class WellFormed(SeenTest):

    def test_widths_at_the_edges_of_a_byte(self):
        for width in EDGES:
            for height in (1, 2, 3, 64):
                rows = [("#.x?" * 17)[row % 4:row % 4 + width] for row in range(height)]
                with self.subTest(width=width, height=height):
                    self.taken(seen_of(7, 8, 9, rows))

    def test_all_of_one_sort(self):
        for sign in "#.x?":
            for width in EDGES:
                with self.subTest(sign=sign, width=width):
                    self.taken(seen_of(1, 0, 3, [sign * width] * 2))

    def test_numbers_at_their_bounds(self):
        for letter, leeway, samples in ((0, 0, 0), (4095, 0, 0), (0, 4096, 0), (0, 0, 4096), (4095, 4096, 4096),
                                        (256, 256, 256), (255, 255, 255)):
            with self.subTest(letter=letter, leeway=leeway, samples=samples):
                self.taken(seen_of(letter, leeway, samples, ["??", "??"]))

    def test_samples_that_were_all_unclear(self):
        self.taken(seen_of(1, 0, 7, ["???"]))

    def test_torn_places_though_there_is_one_sample(self):
        # The document has no rule against it.
        self.taken(seen_of(1, 0, 1, ["x"]))


class Mark(SeenTest):

    def test_each_byte_of_the_mark(self):
        for place in range(4):
            for byte in (0, 255, SEEN_MARK[place] - 1, SEEN_MARK[place] + 1):
                seen = seen_of(1, 0, 1, ["#.", ".#"])
                seen[place] = byte
                with self.subTest(place=place, byte=byte):
                    self.faulty(seen, 1, place)
                    self.faulty(seen[:place + 1], 1, place)

    def test_marks_of_other_forms(self):
        self.faulty([83, 72, 70, 49] + [0] * 20, 1, 2)
        self.faulty([83, 72, 84, 49] + [0] * 20, 1, 2)

    def test_mark_before_numbers(self):
        self.faulty([83, 72, 76, 50] + [255] * 20, 1, 3)


class Numbers(SeenTest):

    def test_letter(self):
        for letter in (4096, 4097, 0xFFFF):
            with self.subTest(letter=letter):
                self.faulty(raw_seen(letter, 1, 1, 0, 0, 0, 0), 2, 4)
                self.faulty(SEEN_MARK + two(letter), 2, 4)

    def test_width(self):
        for width in (0, 65, 128, 255):
            with self.subTest(width=width):
                self.faulty(raw_seen(1, width, 1, 0, 0, 0, 0), 2, 6)
                self.faulty(SEEN_MARK + two(1) + [width], 2, 6)

    def test_height(self):
        for height in (0, 65, 128, 255):
            with self.subTest(height=height):
                self.faulty(raw_seen(1, 1, height, 0, 0, 0, 0), 2, 7)
                self.faulty(SEEN_MARK + two(1) + [1, height], 2, 7)

    def test_leeway(self):
        for leeway in (4097, 4352, 0xFFFF):
            with self.subTest(leeway=leeway):
                self.faulty(raw_seen(1, 1, 1, leeway, 0, 0, 0), 2, 8)
                self.faulty(SEEN_MARK + two(1) + [1, 1] + two(leeway), 2, 8)

    def test_samples(self):
        for samples in (4097, 4352, 0xFFFF):
            with self.subTest(samples=samples):
                self.faulty(raw_seen(1, 1, 1, 0, samples, 0, 0), 2, 10)
                self.faulty(raw_seen(1, 1, 1, 0, samples), 2, 10)

    def test_the_first_of_several_tells(self):
        self.faulty(raw_seen(4096, 0, 0, 4097, 4097, 255), 2, 4)
        self.faulty(raw_seen(4095, 0, 0, 4097, 4097, 255), 2, 6)
        self.faulty(raw_seen(4095, 64, 0, 4097, 4097, 255), 2, 7)
        self.faulty(raw_seen(4095, 1, 1, 4097, 4097, 255), 2, 8)
        self.faulty(raw_seen(4095, 1, 1, 4096, 4097, 255), 2, 10)
        self.faulty(raw_seen(4095, 1, 1, 4096, 4096, 255), 4, 12)

    def test_half_of_a_number(self):
        self.faulty(SEEN_MARK + [255], 5, 5)
        self.faulty(SEEN_MARK + [1, 0, 1, 1, 255], 5, 9)
        self.faulty(SEEN_MARK + [1, 0, 1, 1, 0, 0, 255], 5, 11)


class BitsBehind(SeenTest):

    def test_each_byte_of_each_plane(self):
        height = 3
        for width in (1, 7, 9, 15, 17, 63):
            size = (width + 7) // 8
            for plane in (0, 1):
                for row in range(height):
                    for bit in range(width - 8 * (size - 1), 8):
                        for samples in (0, 1):
                            seen = raw_seen(1, width, height, 0, samples, *[0] * (2 * size * height))
                            place = 12 + (plane * height + row + 1) * size - 1
                            seen[place] = 1 << bit
                            with self.subTest(width=width, plane=plane, row=row, bit=bit, samples=samples):
                                self.faulty(seen, 4, place)
                                self.faulty(seen[:place + 1], 4, place)

    def test_last_column_is_not_behind(self):
        for width in EDGES:
            self.taken(seen_of(1, 0, 1, ["?" * (width - 1) + sign for sign in "#.x"]))

    def test_the_first_of_several_tells(self):
        self.faulty(raw_seen(1, 1, 2, 0, 1, 0, 2, 128, 128), 4, 13)
        self.faulty(raw_seen(1, 1, 2, 0, 1, 1, 1, 1, 128), 4, 15)


class BitsWithoutSample(SeenTest):

    def test_each_point_of_each_plane(self):
        height = 3
        for width in (1, 7, 8, 9, 16, 17):
            size = (width + 7) // 8
            for plane in (0, 1):
                for row in range(height):
                    for column in range(width):
                        seen = raw_seen(1, width, height, 0, 0, *[0] * (2 * size * height))
                        start = 12 + (plane * height + row) * size
                        seen[start + column // 8] = 1 << column % 8
                        with self.subTest(width=width, plane=plane, row=row, column=column):
                            self.faulty(seen, 4, start)
                            seen[10] = 1
                            self.taken(seen)

    def test_the_first_row_of_several_tells(self):
        self.faulty(raw_seen(1, 1, 3, 0, 0, 0, 1, 1, 1, 1, 1), 4, 13)
        self.faulty(raw_seen(1, 1, 3, 0, 0, 0, 0, 0, 0, 1, 1), 4, 16)

    def test_asked_behind_its_plane(self):
        # Behind the plane of ink, ahead of the plane of paper.
        self.faulty(raw_seen(1, 1, 2, 0, 0, 1, 2, 0, 0), 4, 13)
        self.faulty(raw_seen(1, 1, 2, 0, 0, 1), 5, 13)
        self.faulty(raw_seen(1, 1, 2, 0, 0, 1, 0), 4, 12)
        self.faulty(raw_seen(1, 1, 2, 0, 0, 1, 0, 2, 2), 4, 12)
        self.faulty(raw_seen(1, 1, 2, 0, 0, 0, 0, 1, 2), 4, 15)
        self.faulty(raw_seen(1, 1, 2, 0, 0, 0, 0, 1), 5, 15)
        self.faulty(raw_seen(1, 1, 2, 0, 0, 0, 0, 1, 0), 4, 14)

    def test_before_bytes_left_over(self):
        self.faulty(raw_seen(1, 1, 1, 0, 0, 1, 0, 9), 4, 12)
        self.faulty(raw_seen(1, 1, 1, 0, 0, 0, 1, 9), 4, 13)


class EndAndRest(SeenTest):

    def test_every_length(self):
        for seen in (seen_of(1, 0, 1, ["#.x?", "x?.#"]), seen_of(1, 0, 0, ["?" * 20] * 3), unseen(1, 64, 64, 0)[2:]):
            for length in range(0, len(seen), 1 if len(seen) < 100 else 37):
                with self.subTest(length=length):
                    self.faulty(seen[:length], 5, length)

    def test_bytes_left_over(self):
        for seen in (seen_of(1, 0, 1, ["#.x?", "x?.#"]), unseen(1, 9, 3, 4)[2:]):
            for rest in ([0], [255], SEEN_MARK, [0] * 1000):
                with self.subTest(rest=rest):
                    self.faulty(seen + rest, 7, len(seen))


if __name__ == "__main__":
    unittest.main()
