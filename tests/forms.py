"""Faces, scans and what was seen as bytes, for the tests: written by themselves, without the program's own code."""

import itertools
import unittest

MARK = [83, 72, 70, 49]
SCAN_MARK = [83, 72, 84, 49]
SEEN_MARK = [83, 72, 76, 49]
KINDS = {".": 0, "#": 1, "?": 2}
VERY_GREAT = 18446744073709551615


def two(number):
    return [number & 255, number >> 8]


def plane(rows, sign):
    """The plane of one kind of point: rows are texts, one sign a column."""
    written = []
    for row in rows:
        bits = sum(1 << column for column, point in enumerate(row) if point == sign)
        written.extend(bits.to_bytes((len(row) + 7) // 8, "little"))
    return written


def glyph_of(letter, budget, cost, rows):
    """A glyph's bytes; in rows, # must be ink, . must be paper, ? is free."""
    head = two(letter) + [len(rows[0])] + two(budget) + two(cost)
    return head + plane(rows, "#") + plane(rows, ".")


def raw_glyph(letter=1, width=1, budget=0, cost=0, ink=(0,), paper=(0,)):
    return two(letter) + [width] + two(budget) + two(cost) + list(ink) + list(paper)


def face_of(height, cost, *glyphs):
    written = MARK + [height] + two(cost) + two(len(glyphs))
    for one in glyphs:
        written += one
    return written


def points_of(rows):
    """A glyph's points as numbers, row by row."""
    return [KINDS[point] for row in rows for point in row]


def four(number):
    return list(number.to_bytes(4, "little"))


def run(sign, count):
    """The byte of one run."""
    return 64 * KINDS[sign] + count - 1


def runs_of(row):
    """The runs of one row of a scan: a text, # for ink, . for paper, ? for unclear."""
    written = []
    for sign, group in itertools.groupby(row):
        count = len(list(group))
        written += [run(sign, 64)] * (count // 64)
        if count % 64:
            written.append(run(sign, count % 64))
    return written


def scan_of(rows):
    written = SCAN_MARK + four(len(rows[0])) + four(len(rows))
    for above, row in zip([None] + rows, rows):
        written += [255] if row == above else runs_of(row)
    return written


def raw_scan(width, height, *rest):
    return SCAN_MARK + four(width) + four(height) + list(rest)


def raw_seen(letter, width, height, leeway, samples, *planes):
    return SEEN_MARK + two(letter) + [width, height] + two(leeway) + two(samples) + list(planes)


def seen_of(letter, leeway, samples, rows):
    """What was seen: in rows, # is ink alone, . paper alone, x both, ? neither."""
    ink = [row.replace("x", "#") for row in rows]
    paper = [row.replace("x", ".") for row in rows]
    return raw_seen(letter, len(rows[0]), len(rows), leeway, samples, *plane(ink, "#"), *plane(paper, "."))


def overlaid(prints):
    """What is seen in these prints together, as seen_of wants it: each print is a list of rows."""
    signs = {(False, False): "?", (True, False): "#", (False, True): ".", (True, True): "x"}
    rows = []
    for lines in zip(*prints):
        rows.append("".join(signs["#" in points, "." in points] for points in zip(*lines)))
    return rows


class Kept(list):
    """A list that tells of every change, so that one that is undone again is seen too."""

    def changed(self, *arguments):
        raise AssertionError("what was handed in is changed")

    append = extend = insert = remove = pop = clear = sort = reverse = changed
    __setitem__ = __delitem__ = __iadd__ = __imul__ = changed


class FormTest(unittest.TestCase):
    """What is asked of every call: the answer, twice the same, and nothing handed in is changed."""

    def answers(self, call, arguments, expected):
        before = [list(a) if isinstance(a, list) else a for a in arguments]
        first = call(*arguments)
        self.assertEqual(first, expected)
        self.assertIs(type(first), list)
        self.assertTrue(all(type(number) is int for number in first))
        self.assertEqual(arguments, before)
        first.append(-99)
        self.assertEqual(arguments, before)
        self.assertEqual(call(*arguments), expected)
        self.assertEqual(arguments, before)
        kept = [Kept(a) if isinstance(a, list) else a for a in arguments]
        self.assertEqual(call(*kept), expected)
