"""The calls on faces, and how a face's form is read and written."""

FACE_MARK = (83, 72, 70, 49)
FACE_HEAD = 9
GLYPH_HEAD = 7
MOST_HEIGHT = 64
MOST_WIDTH = 64
MOST_LETTER = 4095
MOST_COST = 4095
MOST_BUDGET = 4096
MOST_GLYPHS = 4096

OUT_OF_BOUNDS = -1
NOT_THERE = -2
NOT_A_FORM = -5

MUST_BE_PAPER = 0
MUST_BE_INK = 1
FREE = 2


class Fault(ValueError):
    """Bytes that are not the form they should be: the rule that is broken, and the place."""

    def __init__(self, rule, place):
        self.rule = rule
        self.place = place


class Glyph:
    """One glyph; its two planes are kept as the bytes of the form."""

    def __init__(self, letter, width, budget, cost, ink, paper):
        self.letter = letter
        self.width = width
        self.budget = budget
        self.cost = cost
        self.ink = ink
        self.paper = paper


class Face:
    """A face, its glyphs in the order of the form."""

    def __init__(self, height, cost, glyphs):
        self.height = height
        self.cost = cost
        self.glyphs = glyphs


def judge(face):
    """Call 1: the height, the cost of a wrong point, how many glyphs."""
    try:
        known = read_face(face)
    except Fault as fault:
        return refused_form(fault, 0)
    return [0, known.height, known.cost, len(known.glyphs)]


def glyph(k, face):
    """Call 2: glyph k's letter, width, budget, cost, and its points row by row."""
    try:
        known = read_face(face)
    except Fault as fault:
        return refused_form(fault, 0)
    if k >= len(known.glyphs):
        return [NOT_THERE]
    chosen = known.glyphs[k]
    head = [0, chosen.letter, chosen.width, chosen.budget, chosen.cost]
    points = points_of(chosen, known.height)
    return head + [len(points)] + points


def bare(h, cost):
    """Call 3: the form of a face without glyphs."""
    if h < 1 or h > MOST_HEIGHT or cost > MOST_COST:
        return [OUT_OF_BOUNDS]
    form = list(FACE_MARK) + [h] + number_bytes(cost, 2) + number_bytes(0, 2)
    return [0, len(form)] + form


def refused_form(fault, which):
    """The refusal of a form: which one of those handed in, the rule, the place."""
    return [NOT_A_FORM, which, fault.rule, fault.place]


def read_face(form):
    """The face that the bytes tell; Fault with the first rule broken, if they tell none."""
    check_mark(form, FACE_MARK)
    height = bounded_at(form, 4, 1, 1, MOST_HEIGHT, 2)
    cost = bounded_at(form, 5, 2, 0, MOST_COST, 2)
    count = bounded_at(form, 7, 2, 0, MOST_GLYPHS, 2)
    place = FACE_HEAD
    glyphs = []
    for turn in range(count):
        latest = read_glyph(form, place, height)
        if turn > 0 and not rises(glyphs[turn - 1], latest):
            raise Fault(6, place)
        glyphs.append(latest)
        place = place + GLYPH_HEAD + 2 * height * row_size(latest.width)
    if place < len(form):
        raise Fault(7, place)
    return Face(height, cost, glyphs)


def read_glyph(form, place, height):
    """The glyph whose first byte is at place."""
    letter = bounded_at(form, place, 2, 0, MOST_LETTER, 3)
    width = bounded_at(form, place + 2, 1, 1, MOST_WIDTH, 3)
    budget = bounded_at(form, place + 3, 2, 0, MOST_BUDGET, 3)
    cost = bounded_at(form, place + 5, 2, 0, MOST_COST, 3)
    ink_place = place + GLYPH_HEAD
    paper_place = ink_place + height * row_size(width)
    ink = read_plane(form, ink_place, width, height)
    paper = read_plane(form, paper_place, width, height)
    check_apart(ink, paper, paper_place, width)
    return Glyph(letter, width, budget, cost, ink, paper)


def read_plane(form, place, width, height):
    """The bytes of the plane whose first byte is at place."""
    size = row_size(width)
    plane = []
    for step in range(height * size):
        byte = number_at(form, place + step, 1)
        columns = min(8, width - 8 * (step % size))
        if (byte >> columns) != 0:
            raise Fault(4, place + step)
        plane.append(byte)
    return plane


def check_apart(ink, paper, paper_place, width):
    """Fault at the first row with a point that must be both ink and paper."""
    size = row_size(width)
    for step, byte in enumerate(ink):
        if (byte & paper[step]) != 0:
            raise Fault(4, paper_place + step - step % size)


def check_mark(form, mark):
    """Fault at the first byte that is not the mark's."""
    for place, byte in enumerate(mark):
        if number_at(form, place, 1) != byte:
            raise Fault(1, place)


def bounded_at(form, place, size, least, most, rule):
    """The number of so many bytes at place; Fault by this rule, if it is out of its bounds."""
    value = number_at(form, place, size)
    if value < least or value > most:
        raise Fault(rule, place)
    return value


def number_at(form, place, size):
    """The number of so many bytes at place, lowest byte first."""
    # A number that is there in part is due still: its bounds are asked only of all its bytes.
    if place + size > len(form):
        raise Fault(5, len(form))
    value = 0
    for byte in reversed(form[place:place + size]):
        value = value * 256 + byte
    return value


def number_bytes(value, size):
    """The number as so many bytes, lowest byte first."""
    written = []
    rest = value
    for step in range(size):
        written.append(rest % 256)
        rest = rest // 256
    return written


def row_size(width):
    """How many bytes a row of a plane has."""
    return (width + 7) // 8


def rises(before, after):
    """Whether the second glyph is the greater."""
    return rank_of(before) < rank_of(after)


def rank_of(shape):
    """The numbers by which glyphs rise, the first that differs telling."""
    # Budget and cost count as they are written, lowest byte first, not by their value.
    behind = number_bytes(shape.budget, 2) + number_bytes(shape.cost, 2) + shape.ink + shape.paper
    return [shape.letter, shape.width] + behind


def points_of(shape, height):
    """The kinds of the glyph's points, row by row."""
    points = []
    for row in range(height):
        for column in range(shape.width):
            points.append(point_at(shape, column, row))
    return points


def point_at(shape, column, row):
    """The kind of one point of the glyph."""
    step = row * row_size(shape.width) + column // 8
    bit = column % 8
    if (shape.ink[step] >> bit) & 1 == 1:
        return MUST_BE_INK
    if (shape.paper[step] >> bit) & 1 == 1:
        return MUST_BE_PAPER
    return FREE
