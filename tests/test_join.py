"""Call 12, join."""

import itertools
import unittest

from forms import FormTest, overlaid, scan_of, seen_of
from lettershapesdesk.faces import add, join, unseen


def gathered(prints, letter=9, leeway=4):
    """What is seen in these prints, one after another."""
    seen = unseen(letter, len(prints[0][0]), len(prints[0]), leeway)[2:]
    for one in prints:
        seen = add(0, 0, seen, scan_of(one))[2:]
    return seen


class JoinTest(FormTest):

    def gives(self, seen, other, form):
        """In both orders."""
        self.answers(join, [seen, other], [0, len(form)] + form)
        self.answers(join, [other, seen], [0, len(form)] + form)


class Joining(JoinTest):

    def test_each_kind_of_place_with_each(self):
        seen = {"#": {"#"}, ".": {"."}, "x": {"#", "."}, "?": set()}
        for first, second in itertools.product("#.x?", repeat=2):
            both = next(sign for sign in seen if seen[sign] == seen[first] | seen[second])
            with self.subTest(first=first, second=second):
                self.gives(seen_of(1, 2, 3, [first]), seen_of(1, 2, 4, [second]), seen_of(1, 2, 7, [both]))

    def test_several_rows_and_bytes(self):
        first = ["#.x?" * 5, "?x.#" * 5, "?" * 20]
        second = ["..##" * 5, "????" * 5, "x" * 20]
        self.gives(seen_of(5, 6, 100, first), seen_of(5, 6, 200, second),
                   seen_of(5, 6, 300, ["x.x#" * 5, "?x.#" * 5, "x" * 20]))

    def test_widths_at_the_edges_of_a_byte(self):
        for width in (1, 7, 8, 9, 16, 63, 64):
            with self.subTest(width=width):
                self.gives(seen_of(1, 0, 2, [("#?" * 32)[:width]]), seen_of(1, 0, 3, [("?." * 32)[:width]]),
                           seen_of(1, 0, 5, [("#." * 32)[:width]]))

    def test_with_one_of_which_nothing_was_seen(self):
        nothing = unseen(9, 3, 2, 4)[2:]
        self.gives(seen_of(9, 4, 5, ["#.x", "?.#"]), nothing, seen_of(9, 4, 5, ["#.x", "?.#"]))
        self.gives(nothing, nothing, nothing)

    def test_with_itself(self):
        self.gives(seen_of(9, 4, 5, ["#.x"]), seen_of(9, 4, 5, ["#.x"]), seen_of(9, 4, 10, ["#.x"]))

    def test_joined_and_one_after_another_are_the_same(self):
        prints = [["#.?", "..."], ["##.", ".?."], ["?.#", "#.."], ["???", "???"]]
        whole = gathered(prints)
        self.assertEqual(whole, seen_of(9, 4, 4, overlaid(prints)))
        for order in itertools.permutations(prints):
            for cut in (1, 2, 3):
                joined = join(gathered(order[:cut]), gathered(order[cut:]))
                self.assertEqual(joined, [0, len(whole)] + whole)

    def test_three_joined_either_way(self):
        one, two, three = (seen_of(1, 1, n, [row]) for n, row in ((1, "#.??"), (2, "x?.?"), (3, ".?#?")))
        self.assertEqual(join(join(one, two)[2:], three), join(one, join(two, three)[2:]))

    def test_most_samples(self):
        for first, second in ((4096, 0), (4095, 1), (2048, 2048), (1, 4095)):
            with self.subTest(first=first, second=second):
                self.gives(seen_of(1, 0, first, ["?"]), seen_of(1, 0, second, ["?"]), seen_of(1, 0, 4096, ["?"]))
        for first, second in ((4096, 1), (2048, 2049), (4095, 2), (4096, 4096)):
            with self.subTest(first=first, second=second):
                self.answers(join, [seen_of(1, 0, first, ["?"]), seen_of(1, 0, second, ["?"])], [-6])
                self.answers(join, [seen_of(1, 0, second, ["?"]), seen_of(1, 0, first, ["?"])], [-6])


class Refusals(JoinTest):

    def differ(self, seen, other):
        self.answers(join, [seen, other], [-2])
        self.answers(join, [other, seen], [-2])

    def test_two_that_differ(self):
        seen = seen_of(1, 2, 3, ["#.", ".#"])
        self.differ(seen, seen_of(2, 2, 3, ["#.", ".#"]))
        self.differ(seen, seen_of(257, 2, 3, ["#.", ".#"]))
        self.differ(seen, seen_of(1, 2, 3, ["#.?", ".#?"]))
        self.differ(seen, seen_of(1, 2, 3, ["#.", ".#", "??"]))
        self.differ(seen, seen_of(1, 3, 3, ["#.", ".#"]))
        self.differ(seen, seen_of(1, 258, 3, ["#.", ".#"]))
        self.differ(seen_of(1, 2, 3, ["####"]), seen_of(1, 2, 3, ["#", "#", "#", "#"]))

    def test_which_form(self):
        seen = seen_of(1, 2, 3, ["#."])
        self.answers(join, [seen + [0], seen], [-5, 0, 7, len(seen)])
        self.answers(join, [seen, seen[:-1]], [-5, 1, 5, len(seen) - 1])
        self.answers(join, [seen[:-1], seen + [0]], [-5, 0, 5, len(seen) - 1])
        self.answers(join, [[], []], [-5, 0, 5, 0])

    def test_forms_before_what_differs(self):
        self.answers(join, [seen_of(1, 2, 3, ["#"]), seen_of(4096, 2, 3, ["#"])], [-5, 1, 2, 4])
        self.answers(join, [seen_of(1, 4097, 3, ["#"]), seen_of(2, 2, 3, ["#"])], [-5, 0, 2, 8])
        self.answers(join, [seen_of(1, 0, 4096, ["#"]), seen_of(1, 0, 4097, ["#"])], [-5, 1, 2, 10])

    def test_what_differs_before_too_many(self):
        self.differ(seen_of(1, 2, 4096, ["#"]), seen_of(2, 2, 4096, ["#"]))
        self.differ(seen_of(1, 2, 4096, ["#"]), seen_of(1, 3, 1, ["#"]))


if __name__ == "__main__":
    unittest.main()
