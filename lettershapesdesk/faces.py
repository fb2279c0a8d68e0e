"""The calls: faces are kept, wrong points counted, places and shapes that fit are told, shapes are learnt."""

from lettershapesdesk.forms import MOST_BUDGET, MOST_COST, MOST_GLYPHS, MOST_HEIGHT, MOST_LETTER, MOST_SAMPLES
from lettershapesdesk.forms import FREE, INK, MOST_WIDTH, PAPER, Face, Fault, Glyph, Seen
from lettershapesdesk.forms import read_face, read_scan, read_seen, face_bytes, glyph_bytes, seen_bytes
from lettershapesdesk.forms import both_in, kinds_of, plane_of, rank_of

OUT_OF_BOUNDS = -1
NOT_THERE = -2
THERE_ALREADY = -2
DIFFERENT = -2
NO_SUCH_LETTER = -3
NOT_A_FORM = -5
TOO_MANY = -6


def judge(face):
    """Call 1: the height, the cost of a wrong point, how many glyphs."""
    try:
        known = read_face(face, 0)
    except Fault as fault:
        return refused_form(fault)
    return [0, known.height, known.cost, len(known.glyphs)]


def glyph(k, face):
    """Call 2: glyph k's letter, width, budget, cost, and its points row by row."""
    try:
        known = read_face(face, 0)
    except Fault as fault:
        return refused_form(fault)
    if k >= len(known.glyphs):
        return [NOT_THERE]
    shape = known.glyphs[k]
    points = []
    for row in shape.rows:
        points.extend(row)
    return [0, shape.letter, shape.width, shape.budget, shape.cost, len(points)] + points


def bare(h, cost):
    """Call 3: the form of a face without glyphs."""
    if h < 1 or h > MOST_HEIGHT or cost > MOST_COST:
        return [OUT_OF_BOUNDS]
    return told_numbers(face_bytes(Face(h, cost, [])))


def put(letter, width, budget, cost, face, points):
    """Call 4: the form of the face with this glyph more."""
    if letter > MOST_LETTER or width < 1 or width > MOST_WIDTH or budget > MOST_BUDGET or cost > MOST_COST:
        return [OUT_OF_BOUNDS]
    if max(points, default=0) > FREE:
        return [OUT_OF_BOUNDS]
    try:
        known = read_face(face, 0)
    except Fault as fault:
        return refused_form(fault)
    if len(points) != width * known.height:
        return [OUT_OF_BOUNDS]
    rows = [points[start:start + width] for start in range(0, len(points), width)]
    return told_with(known, Glyph(letter, width, budget, cost, rows))


def drop(k, face):
    """Call 5: the form of the face without glyph k."""
    try:
        known = read_face(face, 0)
    except Fault as fault:
        return refused_form(fault)
    if k >= len(known.glyphs):
        return [NOT_THERE]
    return told_numbers(face_bytes(Face(known.height, known.cost, known.glyphs[:k] + known.glyphs[k + 1:])))


def wrong(k, x, y, face, scan):
    """Call 6: how many points are wrong of glyph k at (x, y)."""
    try:
        known = read_face(face, 0)
        page = read_scan(scan, 1)
    except Fault as fault:
        return refused_form(fault)
    if k >= len(known.glyphs):
        return [NOT_THERE]
    shape = known.glyphs[k]
    if hangs_over(page, x, y, shape.width, known.height):
        return [NOT_THERE]
    return [0, wrong_points(shape, x, y, page)]


def fits(x0, y0, x1, y1, face, scan):
    """Call 7: all places in the box, as x, y, k and how many points are wrong."""
    try:
        known = read_face(face, 0)
        page = read_scan(scan, 1)
    except Fault as fault:
        return refused_form(fault)
    if x0 > x1 or y0 > y1 or x1 > page.width or y1 > page.height:
        return [NOT_THERE]
    places = []
    for y in range(y0, y1 - known.height + 1):
        for x in range(x0, x1):
            places.extend(fits_at(x, y, x1, known, page))
    return told_numbers(places)


def clash(left, right, d, face):
    """Call 8: the clash of two glyphs, the second put d columns to the right."""
    try:
        known = read_face(face, 0)
    except Fault as fault:
        return refused_form(fault)
    if left >= len(known.glyphs) or right >= len(known.glyphs):
        return [NOT_THERE]
    return [0, clash_of(known.glyphs[left], known.glyphs[right], d)]


def alikes(face):
    """Call 9: all pairs of glyphs that are alike, as f, g and their clash."""
    try:
        known = read_face(face, 0)
    except Fault as fault:
        return refused_form(fault)
    pairs = []
    for f, left in enumerate(known.glyphs):
        for g in range(f + 1, len(known.glyphs)):
            right = known.glyphs[g]
            count = clash_of(left, right, 0)
            if count <= left.budget + right.budget:
                pairs.extend([f, g, count])
    return told_numbers(pairs)


def unseen(letter, w, h, b):
    """Call 10: the form of nothing seen of a letter yet."""
    if letter > MOST_LETTER or w < 1 or w > MOST_WIDTH or h < 1 or h > MOST_HEIGHT or b > MOST_BUDGET:
        return [OUT_OF_BOUNDS]
    blank = [[0] * w] * h
    return told_numbers(seen_bytes(Seen(letter, w, h, b, 0, blank, blank)))


def add(x, y, seen, scan):
    """Call 11: the form of what was seen with a sample more, at (x, y)."""
    try:
        known = read_seen(seen, 0)
        page = read_scan(scan, 1)
    except Fault as fault:
        return refused_form(fault)
    if hangs_over(page, x, y, known.width, known.height):
        return [NOT_THERE]
    rows = cut_out(page, x, y, known.width, known.height)
    ink = plane_of(rows, INK)
    paper = plane_of(rows, PAPER)
    return told_joined(known, Seen(known.letter, known.width, known.height, known.leeway, 1, ink, paper))


def join(seen, other):
    """Call 12: the form of the samples of both."""
    try:
        known = read_seen(seen, 0)
        more = read_seen(other, 1)
    except Fault as fault:
        return refused_form(fault)
    if known.letter != more.letter or known.width != more.width or known.height != more.height:
        return [DIFFERENT]
    if known.leeway != more.leeway:
        return [DIFFERENT]
    return told_joined(known, more)


def torn(seen):
    """Call 13: how many places are torn."""
    try:
        known = read_seen(seen, 0)
    except Fault as fault:
        return refused_form(fault)
    return [0, torn_places(known)]


def learnt(cost, face, seen):
    """Call 14: the form of the face with the glyph that was learnt, with this cost."""
    if cost > MOST_COST:
        return [OUT_OF_BOUNDS]
    try:
        known = read_face(face, 0)
        samples = read_seen(seen, 1)
    except Fault as fault:
        return refused_form(fault)
    if samples.height != known.height:
        return [DIFFERENT]
    budget = samples.leeway - torn_places(samples)
    if budget < 0:
        return [NO_SUCH_LETTER]
    rows = kinds_of(samples.ink, samples.paper)
    return told_with(known, Glyph(samples.letter, samples.width, budget, cost, rows))


def refused_form(fault):
    """The refusal of a form: which one of those handed in, the rule, the place."""
    return [NOT_A_FORM, fault.which, fault.rule, fault.place]


def told_numbers(numbers):
    """The answer that tells how many numbers there are, and these: a form's bytes, places, pairs."""
    return [0, len(numbers)] + numbers


def told_with(known, shape):
    """The answer that tells the face with this glyph more."""
    rank = rank_of(glyph_bytes(shape))
    lesser = [other for other in known.glyphs if rank_of(glyph_bytes(other)) < rank]
    rest = known.glyphs[len(lesser):]
    if len(rest) > 0 and rank_of(glyph_bytes(rest[0])) == rank:
        return [THERE_ALREADY]
    if len(known.glyphs) >= MOST_GLYPHS:
        return [TOO_MANY]
    return told_numbers(face_bytes(Face(known.height, known.cost, lesser + [shape] + rest)))


def told_joined(known, more):
    """The answer that tells the samples of both, which are of one letter."""
    samples = known.samples + more.samples
    if samples > MOST_SAMPLES:
        return [TOO_MANY]
    ink = either_of(known.ink, more.ink)
    paper = either_of(known.paper, more.paper)
    return told_numbers(seen_bytes(Seen(known.letter, known.width, known.height, known.leeway, samples, ink, paper)))


def either_of(plane, other):
    """The plane of the points that are in one of the two planes or in both."""
    joined = []
    for row, other_row in zip(plane, other):
        joined.append([bit | other_bit for bit, other_bit in zip(row, other_row)])
    return joined


def torn_places(known):
    """At how many places both ink and paper were seen."""
    return sum([both_in(ink_row, paper_row) for ink_row, paper_row in zip(known.ink, known.paper)])


def fits_at(x, y, end, known, page):
    """The glyphs that fit at (x, y) and end ahead of this column, each as x, y, k and its wrong points."""
    found = []
    for k, shape in enumerate(known.glyphs):
        if x + shape.width <= end:
            count = wrong_points(shape, x, y, page)
            if count <= shape.budget:
                found.extend([x, y, k, count])
    return found


def wrong_points(shape, x, y, page):
    """How many points of the glyph are wrong at (x, y); the scan has all of them."""
    return at_odds(shape.rows, cut_out(page, x, y, shape.width, len(shape.rows)))


def clash_of(left, right, d):
    """How many points of the two glyphs clash, the second put d columns to the right."""
    return at_odds(right.rows, [row[d:] for row in left.rows])


def hangs_over(page, x, y, width, height):
    """Whether what is so wide and high, put at (x, y), has points outside the scan."""
    return x + width > page.width or y + height > page.height


def cut_out(page, x, y, width, height):
    """The rows of the scan's points in the box that is so wide and high and begins at (x, y)."""
    return [row[x:x + width] for row in page.rows[y:y + height]]


def at_odds(rows, others):
    """At how many points that both have the one is ink and the other paper."""
    count = 0
    for row, other in zip(rows, others):
        # Free on one side, or unclear, is never at odds.
        count = count + len([1 for mine, yours in zip(row, other) if mine != yours and mine != FREE and yours != FREE])
    return count
