"""Call 13, torn."""

import unittest

from forms import FormTest, raw_seen, scan_of, seen_of
from lettershapesdesk.faces import add, torn, unseen


class Torn(FormTest):

    def test_nothing_seen(self):
        self.answers(torn, [unseen(1, 9, 3, 4)[2:]], [0, 0])

    def test_no_torn_place(self):
        self.answers(torn, [seen_of(1, 2, 3, ["#.?", ".#?"])], [0, 0])
        self.answers(torn, [seen_of(1, 2, 3, ["?" * 64] * 64)], [0, 0])

    def test_each_kind_of_place(self):
        for sign, count in (("#", 0), (".", 0), ("?", 0), ("x", 1)):
            self.answers(torn, [seen_of(1, 0, 2, [sign])], [0, count])

    def test_one_torn_place_wherever_it_is(self):
        for width in (1, 7, 8, 9, 16, 17):
            for row in range(3):
                for column in range(width):
                    rows = [("#.?" * 6)[:width]] * 3
                    rows[row] = rows[row][:column] + "x" + rows[row][column + 1:]
                    with self.subTest(width=width, row=row, column=column):
                        self.assertEqual(torn(seen_of(1, 0, 2, rows)), [0, 1])

    def test_several_in_several_rows_and_bytes(self):
        self.answers(torn, [seen_of(1, 0, 2, ["x.#?x.#?xx", "..........", "#########x", "xxxxxxxxxx"])], [0, 15])

    def test_all_places(self):
        for width, height in ((1, 1), (7, 2), (8, 3), (9, 1), (63, 1), (64, 64)):
            with self.subTest(width=width, height=height):
                self.answers(torn, [seen_of(1, 0, 2, ["x" * width] * height)], [0, width * height])

    def test_more_than_the_letter_may_have(self):
        self.answers(torn, [seen_of(1, 0, 2, ["xxx"])], [0, 3])

    def test_torn_by_samples(self):
        seen = unseen(1, 3, 1, 1)[2:]
        for one, count in (("#.?", 0), ("??#", 0), ("##.", 2), (".??", 3), ("...", 3)):
            seen = add(0, 0, seen, scan_of([one]))[2:]
            self.answers(torn, [seen], [0, count])

    def test_not_what_was_seen(self):
        seen = seen_of(1, 0, 2, ["x."])
        self.answers(torn, [[]], [-5, 0, 5, 0])
        self.answers(torn, [scan_of(["#"])], [-5, 0, 1, 2])
        self.answers(torn, [seen[:-1]], [-5, 0, 5, len(seen) - 1])
        self.answers(torn, [seen + [0]], [-5, 0, 7, len(seen)])
        self.answers(torn, [raw_seen(1, 65, 1, 0, 0, 0, 0)], [-5, 0, 2, 6])
        self.answers(torn, [raw_seen(1, 1, 1, 0, 0, 1, 0)], [-5, 0, 4, 12])


if __name__ == "__main__":
    unittest.main()
