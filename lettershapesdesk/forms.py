"""What the forms tell (a face, a scan, what was seen of a letter), and how forms are read and written."""

FACE_MARK = (83, 72, 70, 49)
SCAN_MARK = (83, 72, 84, 49)
SEEN_MARK = (83, 72, 76, 49)
MOST_HEIGHT = 64
MOST_WIDTH = 64
MOST_LETTER = 4095
MOST_COST = 4095
MOST_BUDGET = 4096
MOST_GLYPHS = 4096
MOST_SAMPLES = 4096
MOST_SIDE = 8192
MOST_POINTS = 16777216
LONGEST_RUN = 64
LAST_RUN = 191
SAME_AS_ABOVE = 255

# A glyph's points and a scan's bear the same numbers, so that one can be held against the other.
PAPER = 0
INK = 1
FREE = 2


class Fault(ValueError):
    """Bytes that are not the form they should be: which form, the rule that is broken, the place."""

    def __init__(self, which, rule, place):
        self.which = which
        self.rule = rule
        self.place = place


class Glyph:
    """One glyph; its points are kept as rows of their kinds."""

    def __init__(self, letter, width, budget, cost, rows):
        self.letter = letter
        self.width = width
        self.budget = budget
        self.cost = cost
        self.rows = rows


class Face:
    """A face, its glyphs in the order of the form."""

    def __init__(self, height, cost, glyphs):
        self.height = height
        self.cost = cost
        self.glyphs = glyphs


class Scan:
    """A scan; its points are kept as rows of their kinds, where FREE stands for unclear."""

    def __init__(self, width, height, rows):
        self.width = width
        self.height = height
        self.rows = rows


class Seen:
    """What was seen of a letter whose prints may differ at so many places: two planes, as rows of 0 and 1."""

    def __init__(self, letter, width, height, leeway, samples, ink, paper):
        self.letter = letter
        self.width = width
        self.height = height
        self.leeway = leeway
        self.samples = samples
        self.ink = ink
        self.paper = paper


class Reader:
    """Goes through the bytes of one form from front to back."""

    def __init__(self, form, which):
        self.form = form
        self.which = which
        self.place = 0

    def take_number(self, size):
        """The number of so many bytes that is due, lowest byte first."""
        # A number that is there in part is due still: its bounds are asked only of all its bytes.
        if self.place + size > len(self.form):
            raise Fault(self.which, 5, len(self.form))
        value = 0
        for byte in reversed(self.form[self.place:self.place + size]):
            value = value * 256 + byte
        self.place = self.place + size
        return value

    def take_bounded(self, size, least, most, rule):
        """The number that is due; Fault by this rule, if it is out of its bounds."""
        start = self.place
        value = self.take_number(size)
        if value < least or value > most:
            raise Fault(self.which, rule, start)
        return value

    def take_mark(self, mark):
        """Fault at the first byte that is not the mark's."""
        for byte in mark:
            self.take_bounded(1, byte, byte, 1)

    def take_end(self):
        """Fault if there are bytes left over."""
        if self.place < len(self.form):
            raise Fault(self.which, 7, self.place)


def read_face(form, which):
    """The face that the bytes tell; Fault with the first rule broken, if they tell none."""
    reader = Reader(form, which)
    reader.take_mark(FACE_MARK)
    height = reader.take_bounded(1, 1, MOST_HEIGHT, 2)
    cost = reader.take_bounded(2, 0, MOST_COST, 2)
    count = reader.take_bounded(2, 0, MOST_GLYPHS, 2)
    glyphs = []
    # Below every rank, so that the first glyph always rises.
    rank_before = []
    for turn in range(count):
        start = reader.place
        glyphs.append(read_glyph(reader, height))
        rank = rank_of(form[start:reader.place])
        if rank <= rank_before:
            raise Fault(which, 6, start)
        rank_before = rank
    reader.take_end()
    return Face(height, cost, glyphs)


def read_glyph(reader, height):
    """The glyph whose bytes are due."""
    letter = reader.take_bounded(2, 0, MOST_LETTER, 3)
    width = reader.take_bounded(1, 1, MOST_WIDTH, 3)
    budget = reader.take_bounded(2, 0, MOST_BUDGET, 3)
    cost = reader.take_bounded(2, 0, MOST_COST, 3)
    ink = read_plane(reader, width, height)
    paper_place = reader.place
    paper = read_plane(reader, width, height)
    for row in range(height):
        if both_in(ink[row], paper[row]) > 0:
            raise Fault(reader.which, 4, paper_place + row * row_size(width))
    return Glyph(letter, width, budget, cost, kinds_of(ink, paper))


def read_plane(reader, width, height):
    """The plane that is due, as rows of 0 and 1."""
    plane = []
    for turn in range(height):
        plane.append(read_plane_row(reader, width))
    return plane


def read_plane_row(reader, width):
    """The row of a plane that is due, as 0 and 1."""
    bits = []
    for first in range(0, width, 8):
        place = reader.place
        columns = min(8, width - first)
        byte = reader.take_number(1)
        if (byte >> columns) != 0:
            raise Fault(reader.which, 4, place)
        for column in range(columns):
            bits.append((byte >> column) & 1)
    return bits


def read_scan(form, which):
    """The scan that the bytes tell; Fault with the first rule broken, if they tell none."""
    reader = Reader(form, which)
    reader.take_mark(SCAN_MARK)
    width = reader.take_bounded(4, 1, MOST_SIDE, 2)
    height = reader.take_bounded(4, 1, min(MOST_SIDE, MOST_POINTS // width), 2)
    rows = []
    # No row is like this one, so the first is never told by the one above.
    above = []
    for turn in range(height):
        above = read_scan_row(reader, width, above)
        rows.append(above)
    reader.take_end()
    return Scan(width, height, rows)


def read_scan_row(reader, width, above):
    """The row of a scan that is due."""
    start = reader.place
    if len(above) > 0 and reader.form[start:start + 1] == [SAME_AS_ABOVE]:
        reader.take_number(1)
        return above
    row = []
    while len(row) < width:
        place = reader.place
        byte = reader.take_bounded(1, 0, LAST_RUN, 3)
        told = byte % LONGEST_RUN + 1
        if told > width - len(row):
            raise Fault(reader.which, 4, place)
        row.extend([byte // LONGEST_RUN] * told)
    if reader.form[start:reader.place] != scan_row_bytes(row, above):
        raise Fault(reader.which, 6, start)
    return row


def scan_row_bytes(row, above):
    """The one form of a scan's row below this one."""
    if row == above:
        return [SAME_AS_ABOVE]
    written = []
    start = 0
    while start < len(row):
        end = start + 1
        while end < len(row) and row[end] == row[start] and end - start < LONGEST_RUN:
            end = end + 1
        written.append(LONGEST_RUN * row[start] + end - start - 1)
        start = end
    return written


def read_seen(form, which):
    """What the bytes tell was seen; Fault with the first rule broken, if they tell nothing."""
    reader = Reader(form, which)
    reader.take_mark(SEEN_MARK)
    letter = reader.take_bounded(2, 0, MOST_LETTER, 2)
    width = reader.take_bounded(1, 1, MOST_WIDTH, 2)
    height = reader.take_bounded(1, 1, MOST_HEIGHT, 2)
    leeway = reader.take_bounded(2, 0, MOST_BUDGET, 2)
    samples = reader.take_bounded(2, 0, MOST_SAMPLES, 2)
    ink = read_seen_plane(reader, width, height, samples)
    paper = read_seen_plane(reader, width, height, samples)
    reader.take_end()
    return Seen(letter, width, height, leeway, samples, ink, paper)


def read_seen_plane(reader, width, height, samples):
    """The plane that is due of what was seen in so many samples."""
    start = reader.place
    plane = read_plane(reader, width, height)
    for row in range(height):
        if samples == 0 and 1 in plane[row]:
            raise Fault(reader.which, 4, start + row * row_size(width))
    return plane


def face_bytes(face):
    """The form of a face."""
    written = list(FACE_MARK) + [face.height] + number_bytes(face.cost, 2) + number_bytes(len(face.glyphs), 2)
    for shape in face.glyphs:
        written.extend(glyph_bytes(shape))
    return written


def glyph_bytes(shape):
    """The bytes of a glyph in a face's form."""
    head = number_bytes(shape.letter, 2) + [shape.width] + number_bytes(shape.budget, 2) + number_bytes(shape.cost, 2)
    return head + plane_bytes(plane_of(shape.rows, INK)) + plane_bytes(plane_of(shape.rows, PAPER))


def seen_bytes(seen):
    """The form of what was seen."""
    head = list(SEEN_MARK) + number_bytes(seen.letter, 2) + [seen.width, seen.height]
    numbers = number_bytes(seen.leeway, 2) + number_bytes(seen.samples, 2)
    return head + numbers + plane_bytes(seen.ink) + plane_bytes(seen.paper)


def plane_bytes(plane):
    """The bytes of a plane."""
    written = []
    for row in plane:
        for first in range(0, len(row), 8):
            byte = 0
            for bit in reversed(row[first:first + 8]):
                byte = byte * 2 + bit
            written.append(byte)
    return written


def number_bytes(value, size):
    """The number as so many bytes, lowest byte first."""
    written = []
    rest = value
    for step in range(size):
        written.append(rest % 256)
        rest = rest // 256
    return written


def rank_of(written):
    """By what a glyph of these bytes rises among others, the first number that differs telling."""
    # The letter counts by its value; budget and cost count as they are written, lowest byte first.
    return [written[1], written[0]] + written[2:]


def row_size(width):
    """How many bytes a row of a plane has."""
    return (width + 7) // 8


def plane_of(rows, kind):
    """The plane of the points that are of this kind."""
    plane = []
    for row in rows:
        plane.append([1 if point == kind else 0 for point in row])
    return plane


def kinds_of(ink, paper):
    """The points that are ink in the one plane alone, paper in the other alone, else free; row by row."""
    rows = []
    for ink_row, paper_row in zip(ink, paper):
        rows.append([kind_of(blot, blank) for blot, blank in zip(ink_row, paper_row)])
    return rows


def kind_of(blot, blank):
    """The kind of one point, by its bits in the two planes."""
    if blot == blank:
        return FREE
    return INK if blot == 1 else PAPER


def both_in(ink_row, paper_row):
    """How many points of a row are in both planes."""
    return sum([blot & blank for blot, blank in zip(ink_row, paper_row)])
