"""The rules that a cartoon keeps, in their order: which one bytes break first, and at which place."""

from glasscartoons.drawings import HEAD_BYTES, LETTERS, bytes_told, head_for, number_at, read_drawing
from glasscartoons.outlines import corners_of, holder_of, links_of, outlines_of, reached
from glasscartoons.plane import comes_behind, crosses, is_on

MOST_BYTES = 131072

# Of each number of the head: its place, its bytes, the least and the most that it may be.
HEAD_NUMBERS = (
    (4, 4, 16, 1048575),
    (8, 4, 16, 1048575),
    (12, 2, 4, 4096),
    (14, 2, 4, 8192),
    (16, 2, 1, 2048),
    (18, 2, 0, 0),
)


class Verdict:
    """What bytes are found to be: the numbers of their refusal, or none, a drawing and its panes' outlines."""

    def __init__(self, refusal, drawing, panes):
        self.refusal = refusal
        self.drawing = drawing
        self.panes = panes


def is_too_long(row):
    """Whether there are more bytes than are looked at."""
    return len(row) > MOST_BYTES


def broken_head(row):
    """The first of the rules 1 to 3 that is broken, and its place; nothing if none is."""
    if len(row) < HEAD_BYTES:
        return (1, len(row))
    if tuple(row[:len(LETTERS)]) != LETTERS:
        return (1, 0)
    for place, size, least, most in HEAD_NUMBERS:
        number = number_at(row, place, size)
        if number < least or number > most:
            return (2, place)
    if len(row) != bytes_told(row):
        return (3, 20)
    return ()


def is_too_great(drawing):
    """Whether a drawing is wider or higher, or has more points, lines or marks, than rule 2 lets."""
    for number, bounds in zip(head_for(drawing), HEAD_NUMBERS):
        if number > bounds[3]:
            return True
    return False


def wrong_point(drawing):
    """Rule 4."""
    for number, point in enumerate(drawing.points):
        if point[0] > drawing.width or point[1] > drawing.height:
            return drawing.point_place(number)
        if number > 0 and not comes_behind(point, drawing.points[number - 1]):
            return drawing.point_place(number)
    return None


def wrong_line(drawing):
    """Rule 5."""
    for number, line in enumerate(drawing.lines):
        if line[0] >= line[1] or line[1] >= len(drawing.points):
            return drawing.line_place(number)
        if number > 0 and line <= drawing.lines[number - 1]:
            return drawing.line_place(number)
    return None


def edges_of(drawing):
    """The numbers of the points on each of the frame's four edges, rising."""
    below = []
    left = []
    right = []
    above = []
    for number, point in enumerate(drawing.points):
        if point[1] == 0:
            below.append(number)
        if point[0] == 0:
            left.append(number)
        if point[0] == drawing.width:
            right.append(number)
        if point[1] == drawing.height:
            above.append(number)
    return (below, left, right, above)


def open_frame(drawing):
    """Rule 6."""
    width = drawing.width
    height = drawing.height
    for corner in ((0, 0), (width, 0), (0, height), (width, height)):
        if corner not in drawing.points:
            return drawing.point_place(0)
    joined = {}
    for line in drawing.lines:
        joined[line] = True
    # By rule 4 points of one edge that are next to one another there are so in the row of their numbers.
    for edge in edges_of(drawing):
        for k in range(1, len(edge)):
            if (edge[k - 1], edge[k]) not in joined:
                return drawing.point_place(0)
    return None


def has_point_on(drawing, line):
    """Whether a point that is none of its ends is on the line."""
    points = drawing.points
    # By rule 4 a point between a line's ends has a number between theirs.
    for number in range(line[0] + 1, line[1]):
        if is_on(points[line[0]], points[line[1]], points[number]):
            return True
    return False


def crosses_one_before(drawing, number):
    """Whether the line of this number crosses one before it."""
    points = drawing.points
    line = drawing.lines[number]
    for k in range(number):
        other = drawing.lines[k]
        # By rule 4 a line has no point that comes ahead of its first end or behind its second.
        if other[0] < line[0] < other[1]:
            if crosses(points[line[0]], points[line[1]], points[other[0]], points[other[1]]):
                return True
    return False


def crossed_line(drawing):
    """Rule 7."""
    for number, line in enumerate(drawing.lines):
        if has_point_on(drawing, line) or crosses_one_before(drawing, number):
            return drawing.line_place(number)
    return None


def loose_point(drawing):
    """Rule 8."""
    for number, others in enumerate(links_of(drawing)):
        if len(others) < 2:
            return drawing.point_place(number)
    return None


def cut_off_point(drawing):
    """Rule 9."""
    found = reached(links_of(drawing), 0, None)
    for number in range(len(drawing.points)):
        if number not in found:
            return drawing.point_place(number)
    return None


def parting_point(drawing):
    """Rule 10."""
    links = links_of(drawing)
    for number in range(len(drawing.points)):
        start = 1 if number == 0 else 0
        if len(reached(links, start, number)) < len(drawing.points) - 1:
            return drawing.point_place(number)
    return None


def is_on_some_line(drawing, spot):
    """Whether the spot is on a line of the drawing."""
    points = drawing.points
    for first, second in drawing.lines:
        # By rule 4 no line's first end is higher than its second: most lines are passed over by height alone.
        if points[first][1] <= spot[1] <= points[second][1] and is_on(points[first], points[second], spot):
            return True
    return False


def wrong_mark(drawing):
    """Rule 11."""
    for number, mark in enumerate(drawing.marks):
        if not (0 < mark[0] < drawing.width and 0 < mark[1] < drawing.height):
            return drawing.mark_place(number)
        if number > 0 and not comes_behind(mark, drawing.marks[number - 1]):
            return drawing.mark_place(number)
        if is_on_some_line(drawing, mark):
            return drawing.mark_place(number)
    return None


# Each looks where a rule is broken first, of bytes that keep the rules before it.
DRAWING_RULES = (
    (4, wrong_point),
    (5, wrong_line),
    (6, open_frame),
    (7, crossed_line),
    (8, loose_point),
    (9, cut_off_point),
    (10, parting_point),
    (11, wrong_mark),
)


def broken_drawing(drawing):
    """The first of the rules 4 to 11 that is broken, and its place; nothing if none is."""
    for rule, look in DRAWING_RULES:
        place = look(drawing)
        if place is not None:
            return (rule, place)
    return ()


def refused(rule, place):
    """What bytes are that break a rule."""
    return Verdict([-5, rule, place], None, [])


def judge_panes(drawing):
    """What bytes are that keep the rules 1 to 11: here rules 12 and 13 are looked at."""
    outlines = outlines_of(drawing)
    shapes = [corners_of(drawing, outline) for outline in outlines]
    marked = {}
    panes = []
    for number, mark in enumerate(drawing.marks):
        found = holder_of(shapes, mark)
        if found in marked:
            return refused(12, drawing.mark_place(number))
        marked[found] = True
        panes.append(outlines[found])
    if len(panes) < len(outlines):
        return refused(13, drawing.mark_place(len(drawing.marks)))
    return Verdict([], drawing, panes)


def examine(row):
    """What the bytes are; their drawing and its panes, in the order of their marks, if they are a cartoon."""
    if is_too_long(row):
        return Verdict([-6], None, [])
    broken = broken_head(row)
    if broken:
        return refused(broken[0], broken[1])
    drawing = read_drawing(row)
    broken = broken_drawing(drawing)
    if broken:
        return refused(broken[0], broken[1])
    return judge_panes(drawing)
