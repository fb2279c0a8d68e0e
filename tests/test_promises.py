"""The promises 1 to 6, each over small letters, faces and scans."""

import itertools
import random
import unittest

from forms import face_of, glyph_of, overlaid, scan_of, seen_of
from lettershapesdesk.faces import (add, alikes, bare, clash, drop, fits, glyph, join, judge, learnt, put, torn, unseen,
                                    wrong)


def told(answer):
    """What a call that was not refused tells as many numbers."""
    if answer[0] != 0 or answer[1] != len(answer) - 2:
        raise AssertionError(answer)
    return answer[2:]


def texts(count, signs="#.?"):
    return ["".join(choice) for choice in itertools.product(signs, repeat=count)]


def gathered(prints, leeway):
    """What was seen in these prints of one row."""
    seen = told(unseen(1, len(prints[0]), 1, leeway))
    for one in prints:
        seen = told(add(0, 0, seen, scan_of([one])))
    return seen


class WrittenAndRead(unittest.TestCase):
    """Promise 1."""

    def some_glyph(self, lot, height):
        width = lot.choice((1, 2, 7, 8, 9, 16, 17))
        rows = ["".join(lot.choices("#.?", k=width)) for row in range(height)]
        return lot.choice((0, 1, 255, 256, 4095)), lot.choice((0, 1, 256, 4096)), lot.choice((0, 1, 256, 4095)), rows

    def test_faces(self):
        lot = random.Random(1)
        for turn in range(60):
            height = lot.choice((1, 2, 5))
            cost = lot.choice((0, 1, 256, 4095))
            face = told(bare(height, cost))
            there = {}
            for step in range(lot.randint(1, 12)):
                letter, budget, price, rows = self.some_glyph(lot, height)
                points = [".#?".index(point) for row in rows for point in row]
                shape = (letter, len(rows[0]), budget, price)
                answer = put(*shape, face, points)
                if (shape, tuple(points)) in there:
                    self.assertEqual(answer, [-2])
                    continue
                more = told(answer)
                there[shape, tuple(points)] = glyph_of(letter, budget, price, rows)
                self.assertEqual(judge(more), [0, height, cost, len(there)])
                found = [k for k in range(len(there)) if glyph(k, more) == [0, *shape, len(points), *points]]
                self.assertEqual(len(found), 1)
                self.assertEqual(told(drop(found[0], more)), face)
                face = more
            # The letter counts by its value, all behind it by its bytes.
            rising = sorted(there.values(), key=lambda form: [form[1], form[0]] + form[2:])
            self.assertEqual(face, face_of(height, cost, *rising))
            again = told(bare(height, cost))
            for k in reversed(range(len(there))):
                read = glyph(k, face)
                again = told(put(*read[1:5], again, read[6:]))
            self.assertEqual(again, face)

    def test_what_was_seen(self):
        for rows in itertools.product(texts(2, "#.x?"), repeat=2):
            seen = seen_of(7, 2, 3, list(rows))
            self.assertEqual(told(join(seen, told(unseen(7, 2, 2, 2)))), seen)


class ToldUnclear(unittest.TestCase):
    """Promise 2."""

    def dimmed(self, rows):
        """The rows with one more point unclear."""
        for y, row in enumerate(rows):
            for x, point in enumerate(row):
                if point != "?":
                    yield rows[:y] + [row[:x] + "?" + row[x + 1:]] + rows[y + 1:]

    def test_no_more_points_are_wrong_and_no_place_is_lost(self):
        glyphs = [(0, ["#.", ".#"]), (1, ["##", "#?"]), (0, [".", "."])]
        face = face_of(2, 0, *[glyph_of(k, budget, 0, rows) for k, (budget, rows) in enumerate(glyphs)])
        for text in texts(6, "#.") + texts(6)[::7]:
            rows = [text[:3], text[3:]]
            before = told(fits(0, 0, 3, 2, face, scan_of(rows)))
            places = {tuple(before[at:at + 3]): before[at + 3] for at in range(0, len(before), 4)}
            for dim in self.dimmed(rows):
                after = told(fits(0, 0, 3, 2, face, scan_of(dim)))
                dim_places = {tuple(after[at:at + 3]): after[at + 3] for at in range(0, len(after), 4)}
                for place, count in places.items():
                    self.assertLessEqual(dim_places[place], count)
                for k, x in itertools.product(range(3), range(2)):
                    self.assertLessEqual(wrong(k, x, 0, face, scan_of(dim))[1], wrong(k, x, 0, face, scan_of(rows))[1])

    def test_no_more_places_are_torn(self):
        for first, second in itertools.product(texts(3), repeat=2):
            before = torn(gathered([first, second], 0))[1]
            for dim in self.dimmed([second]):
                self.assertLessEqual(torn(gathered([first, dim[0]], 0))[1], before)


class AllPlaces(unittest.TestCase):
    """Promise 3."""

    def test_each_once_in_order_and_none_else(self):
        lot = random.Random(3)
        for turn in range(60):
            width, height, high = lot.randint(1, 9), lot.randint(1, 6), lot.randint(1, 3)
            scan = scan_of(["".join(lot.choices("#.?", k=width)) for row in range(height)])
            widths = [lot.randint(1, 4) for k in range(lot.randint(0, 5))]
            budgets = [lot.randint(0, 4) for k in widths]
            face = face_of(high, 0, *[
                glyph_of(k, budgets[k], 0, ["".join(lot.choices("#.?", k=wide)) for row in range(high)])
                for k, wide in enumerate(widths)])
            x0, x1 = sorted(lot.choices(range(width + 1), k=2))
            y0, y1 = sorted(lot.choices(range(height + 1), k=2))
            numbers = told(fits(x0, y0, x1, y1, face, scan))
            places = [tuple(numbers[at:at + 4]) for at in range(0, len(numbers), 4)]
            self.assertEqual(places, sorted(set(places), key=lambda place: (place[1], place[0], place[2])))
            for x, y, k in itertools.product(range(width), range(height), range(len(widths))):
                answer = wrong(k, x, y, face, scan)
                inside = x0 <= x and x + widths[k] <= x1 and y0 <= y and y + high <= y1
                fit = inside and answer[0] == 0 and answer[1] <= budgets[k]
                self.assertEqual([place for place in places if place[:3] == (x, y, k)],
                                 [(x, y, k, answer[1])] if fit else [])


class Alike(unittest.TestCase):
    """Promise 4."""

    def test_some_scan_fits_both(self):
        scans = [scan_of([text[:2], text[2:]]) for text in texts(4, "#.")]
        lot = random.Random(4)
        for turn in range(250):
            shapes = [(lot.randint(0, 2), ["".join(lot.choices("#.?", (3, 3, 1), k=wide)) for row in range(2)])
                      for wide in (lot.randint(1, 2), lot.randint(1, 2))]
            face = face_of(2, 0, *[glyph_of(k, budget, 0, rows) for k, (budget, rows) in enumerate(shapes)])
            some = any(wrong(0, 0, 0, face, scan)[1] <= shapes[0][0] and wrong(1, 0, 0, face, scan)[1] <= shapes[1][0]
                       for scan in scans)
            self.assertEqual(told(alikes(face)), [0, 1, clash(0, 1, 0, face)[1]] if some else [], shapes)


class Learnt(unittest.TestCase):
    """Promises 5 and 6, over all prints and all letters of three points."""

    width = 3
    prints = texts(3)

    def letters(self, leeway):
        """All letters: the prints that each can make."""
        made = {}
        for places in itertools.product((False, True), repeat=self.width):
            if sum(places) <= leeway:
                for nature in itertools.product("#.", repeat=self.width):
                    made[places, nature] = frozenset(
                        one for one in self.prints
                        if all(free or point in ("?", black) for free, point, black in zip(places, one, nature)))
        return list(made.values())

    def admitted(self, seen):
        """The prints that the learnt glyph fits; none at all if there is no such letter."""
        answer = learnt(0, face_of(1, 0), seen)
        if answer == [-3]:
            return None
        face = told(answer)
        return frozenset(one for one in self.prints
                         if told(fits(0, 0, self.width, 1, face, scan_of([one])))[:3] == [0, 0, 0])

    def possible(self, letters, samples):
        """The prints that some letter could have printed beside the samples."""
        some = [made for made in letters if made.issuperset(samples)]
        return frozenset().union(*some) if some else None

    def test_fits_just_what_some_letter_could_have_printed(self):
        for leeway in range(self.width + 2):
            letters = self.letters(leeway)
            sets = [()] + [(one,) for one in self.prints]
            sets += list(itertools.combinations(self.prints, 2))
            sets += list(itertools.combinations(self.prints, 3))[::17]
            for samples in sets:
                seen = gathered(samples, leeway) if samples else told(unseen(1, self.width, 1, leeway))
                self.assertEqual(self.admitted(seen), self.possible(letters, samples), (leeway, samples))

    def test_more_samples_admit_no_more(self):
        for leeway in range(3):
            for samples in itertools.product(self.prints[::2], repeat=2):
                before = self.admitted(gathered(samples[:1], leeway))
                after = self.admitted(gathered(samples, leeway))
                if before is None:
                    self.assertIsNone(after)
                elif after is not None:
                    self.assertLessEqual(after, before)


class InAnyOrder(unittest.TestCase):
    """Promise 6."""

    def test_one_after_another_and_joined(self):
        lot = random.Random(6)
        for turn in range(30):
            prints = ["".join(lot.choices("#.?", k=9)) for one in range(4)]
            whole = gathered(prints, 3)
            self.assertEqual(whole, seen_of(1, 3, 4, overlaid([[one] for one in prints])))
            for order in itertools.permutations(prints):
                self.assertEqual(gathered(order, 3), whole)
                self.assertEqual(told(join(gathered(order[:1], 3), gathered(order[1:], 3))), whole)
                self.assertEqual(told(join(gathered(order[:2], 3), gathered(order[2:], 3))), whole)


if __name__ == "__main__":
    unittest.main()
