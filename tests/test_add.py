"""Call 11, add."""

import itertools
import unittest

from forms import FormTest, VERY_GREAT, overlaid, raw_scan, run, scan_of, seen_of
from lettershapesdesk.faces import add, unseen


class AddTest(FormTest):

    def gives(self, arguments, form):
        self.answers(add, arguments, [0, len(form)] + form)


class Samples(AddTest):

    def test_each_kind_of_point_over_each(self):
        expected = {"?#": "#", "?.": ".", "??": "?", "##": "#", "#.": "x", "#?": "#", ".#": "x", "..": ".", ".?": ".",
                    "x#": "x", "x.": "x", "x?": "x"}
        for (before, point), after in expected.items():
            with self.subTest(before=before, point=point):
                self.gives([0, 0, seen_of(1, 2, 3, [before]), scan_of([point])], seen_of(1, 2, 4, [after]))

    def test_the_first_sample(self):
        self.gives([0, 0, unseen(300, 3, 2, 5)[2:], scan_of(["#.?", "?#."])], seen_of(300, 5, 1, ["#.?", "?#."]))

    def test_bytes_of_a_sample(self):
        self.gives([0, 0, unseen(1, 3, 1, 0)[2:], scan_of(["#.?"])],
                   [83, 72, 76, 49, 1, 0, 3, 1, 0, 0, 1, 0, 1, 2])

    def test_an_unclear_sample_counts(self):
        self.gives([0, 0, unseen(1, 2, 1, 0)[2:], scan_of(["??"])], seen_of(1, 0, 1, ["??"]))

    def test_more_torn_places_than_the_letter_may_have(self):
        self.gives([0, 0, seen_of(1, 0, 1, ["##"]), scan_of([".."])], seen_of(1, 0, 2, ["xx"]))

    def test_widths_at_the_edges_of_a_byte(self):
        for width in (1, 7, 8, 9, 16, 63, 64):
            scan = [("#.?" * 30)[:width + 3], ("..#" * 30)[:width + 3]]
            before = ["?" * width, ("x#.?" * 17)[:width]]
            for x in range(4):
                cut = [row[x:x + width] for row in scan]
                halves = [[row.replace("x", "#") for row in before], [row.replace("x", ".") for row in before]]
                with self.subTest(width=width, x=x):
                    self.gives([x, 0, seen_of(1, 2, 3, before), scan_of(scan)],
                               seen_of(1, 2, 4, overlaid(halves + [cut])))

    def test_several_samples_in_every_order(self):
        prints = [["#.?", "..."], ["##.", ".?."], ["?.#", "#.."], ["...", "..#"]]
        whole = seen_of(9, 4, 4, overlaid(prints))
        for order in itertools.permutations(prints):
            seen = unseen(9, 3, 2, 4)[2:]
            for one in order:
                seen = add(0, 0, seen, scan_of(one))[2:]
            self.assertEqual(seen, whole)

    def test_most_samples(self):
        scan = scan_of(["#"])
        self.gives([0, 0, seen_of(1, 0, 4095, ["."]), scan], seen_of(1, 0, 4096, ["x"]))
        self.answers(add, [0, 0, seen_of(1, 0, 4096, ["."]), scan], [-6])
        self.gives([0, 0, seen_of(1, 0, 255, ["."]), scan], seen_of(1, 0, 256, ["x"]))


class Places(AddTest):

    scan = ["#.?#.", "..##?", "#?.#.", "?##.."]

    def test_every_place_of_a_scan(self):
        for width, height in ((1, 1), (2, 3), (5, 4), (3, 1)):
            for x in range(7):
                for y in range(6):
                    arguments = [x, y, unseen(1, width, height, 0)[2:], scan_of(self.scan)]
                    with self.subTest(width=width, height=height, x=x, y=y):
                        if x + width <= 5 and y + height <= 4:
                            cut = [row[x:x + width] for row in self.scan[y:y + height]]
                            self.gives(arguments, seen_of(1, 0, 1, cut))
                        else:
                            self.answers(add, arguments, [-2])

    def test_very_far(self):
        seen = unseen(1, 2, 2, 0)[2:]
        for great in (255, 256, 2 ** 32, 2 ** 63, VERY_GREAT):
            for x, y in ((great, 0), (0, great), (great, great)):
                with self.subTest(x=x, y=y):
                    self.answers(add, [x, y, seen, scan_of(self.scan)], [-2])

    def test_greater_than_the_scan(self):
        self.answers(add, [0, 0, unseen(1, 6, 1, 0)[2:], scan_of(self.scan)], [-2])
        self.answers(add, [0, 0, unseen(1, 1, 5, 0)[2:], scan_of(self.scan)], [-2])
        self.answers(add, [0, 0, unseen(1, 64, 64, 0)[2:], scan_of(self.scan)], [-2])


class Refusals(AddTest):

    seen = seen_of(1, 0, 1, ["#."])
    scan = scan_of(["#.#"])

    def test_which_form(self):
        self.answers(add, [0, 0, self.seen + [0], self.scan], [-5, 0, 7, len(self.seen)])
        self.answers(add, [0, 0, self.seen, self.scan + [0]], [-5, 1, 7, len(self.scan)])
        self.answers(add, [0, 0, self.scan, self.seen], [-5, 0, 1, 2])
        self.answers(add, [0, 0, self.seen, self.seen], [-5, 1, 1, 2])

    def test_the_first_form_before_the_second(self):
        self.answers(add, [0, 0, self.seen[:-1], []], [-5, 0, 5, len(self.seen) - 1])

    def test_forms_before_the_place(self):
        for x in (0, 2, VERY_GREAT):
            with self.subTest(x=x):
                self.answers(add, [x, 0, [], self.scan], [-5, 0, 5, 0])
                self.answers(add, [x, 0, self.seen, raw_scan(3, 1, run("#", 4))], [-5, 1, 4, 12])

    def test_forms_before_too_many(self):
        self.answers(add, [0, 0, seen_of(1, 0, 4096, ["#."]), []], [-5, 1, 5, 0])

    def test_the_place_before_too_many(self):
        full = seen_of(1, 0, 4096, ["#."])
        self.answers(add, [2, 0, full, self.scan], [-2])
        self.answers(add, [1, 0, full, self.scan], [-6])


if __name__ == "__main__":
    unittest.main()
