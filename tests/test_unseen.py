"""Call 10, unseen."""

import unittest

from forms import FormTest, VERY_GREAT, raw_seen
from lettershapesdesk.faces import join, unseen


class Unseen(FormTest):

    def gives(self, arguments, form):
        self.answers(unseen, arguments, [0, len(form)] + form)

    def test_form_is_written_number_by_number(self):
        self.gives([0x0123, 9, 2, 0x0456],
                   [83, 72, 76, 49, 0x23, 0x01, 9, 2, 0x56, 0x04, 0, 0, 0, 0, 0, 0, 0, 0, 0, 0])

    def test_widths_at_the_edges_of_a_byte(self):
        for w in (1, 7, 8, 9, 16, 63, 64):
            for h in (1, 2, 63, 64):
                with self.subTest(w=w, h=h):
                    self.gives([5, w, h, 6], raw_seen(5, w, h, 6, 0, *[0] * (2 * h * ((w + 7) // 8))))

    def test_numbers_at_their_bounds(self):
        for letter, w, h, b in ((0, 1, 1, 0), (4095, 1, 1, 0), (0, 64, 1, 0), (0, 1, 64, 0), (0, 1, 1, 4096),
                                (4095, 64, 64, 4096), (255, 1, 1, 255), (256, 1, 1, 256)):
            with self.subTest(letter=letter, w=w, h=h, b=b):
                self.gives([letter, w, h, b], raw_seen(letter, w, h, b, 0, *[0] * (2 * h * ((w + 7) // 8))))

    def test_numbers_beyond_their_bounds(self):
        for place, beyond in ((0, (4096, 4097, 65536, VERY_GREAT)), (1, (0, 65, 256, 257, VERY_GREAT)),
                              (2, (0, 65, 256, 257, VERY_GREAT)), (3, (4097, 65536, VERY_GREAT))):
            for number in beyond:
                numbers = [1, 2, 3, 4]
                numbers[place] = number
                with self.subTest(place=place, number=number):
                    self.answers(unseen, numbers, [-1])
        self.answers(unseen, [VERY_GREAT] * 4, [-1])

    def test_what_is_written_is_read_as_the_same(self):
        for w, h in ((1, 1), (7, 3), (8, 64), (9, 2), (64, 64)):
            form = unseen(3, w, h, 5)[2:]
            with self.subTest(w=w, h=h):
                self.assertEqual(join(form, form), [0, len(form)] + form)


if __name__ == "__main__":
    unittest.main()
