"""Call 3, bare."""

import unittest

from forms import FormTest, VERY_GREAT, face_of
from lettershapesdesk.faces import bare, judge


class Bare(FormTest):

    def test_form_is_written_number_by_number(self):
        self.answers(bare, [7, 0x0123], [0, 9, 83, 72, 70, 49, 7, 0x23, 0x01, 0, 0])

    def test_bounds_are_taken(self):
        for h in (1, 2, 63, 64):
            for cost in (0, 1, 255, 256, 4094, 4095):
                with self.subTest(h=h, cost=cost):
                    self.answers(bare, [h, cost], [0, 9] + face_of(h, cost))

    def test_beyond_the_bounds_is_refused(self):
        wrong = ((0, 0), (65, 0), (256, 0), (257, 5), (VERY_GREAT, 0),
                 (1, 4096), (64, 4096), (1, 65536), (1, VERY_GREAT),
                 (0, 4096), (65, 4096), (VERY_GREAT, VERY_GREAT))
        for h, cost in wrong:
            with self.subTest(h=h, cost=cost):
                self.answers(bare, [h, cost], [-1])

    def test_what_is_written_is_read_as_the_same(self):
        for h in range(1, 65):
            for cost in (0, 1, 255, 256, 257, 4095):
                with self.subTest(h=h, cost=cost):
                    form = bare(h, cost)[2:]
                    self.assertEqual(judge(form), [0, h, cost, 0])


if __name__ == "__main__":
    unittest.main()
