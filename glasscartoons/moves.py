"""What comes of drawings that are moved or joined. Lines are told here by the pairs of points at their ends."""

from glasscartoons.drawings import Drawing
from glasscartoons.plane import by_height


def pairs_of(drawing):
    """The two points at the ends of each line."""
    points = drawing.points
    return [(points[first], points[second]) for first, second in drawing.lines]


def points_of(pairs):
    """The points of the pairs, each once, in the order that rule 4 asks for."""
    found = {}
    for first, second in pairs:
        found[first] = True
        found[second] = True
    return sorted(found, key=by_height)


def numbered_anew(width, height, pairs, marks):
    """The drawing with a line between the points of each pair, all in the order that the rules 4, 5 and 11 ask for."""
    # By rule 8 a cartoon has no point without lines: the pairs tell all of them.
    points = points_of(pairs)
    numbers = {}
    for number, point in enumerate(points):
        numbers[point] = number
    lines = []
    for first, second in pairs:
        ends = (numbers[first], numbers[second])
        lines.append((min(ends), max(ends)))
    return Drawing(width, height, points, sorted(lines), sorted(marks, key=by_height))


def moved(drawing, width, height, place_of):
    """The drawing in a frame of this width and height, with each point and mark at the place it comes to."""
    pairs = [(place_of(p[0], p[1]), place_of(q[0], q[1])) for p, q in pairs_of(drawing)]
    marks = [place_of(mark[0], mark[1]) + mark[2:] for mark in drawing.marks]
    return numbered_anew(width, height, pairs, marks)


def quarter_turned(drawing):
    """The drawing turned to the left by one quarter."""
    height = drawing.height
    return moved(drawing, height, drawing.width, lambda x, y: (height - y, x))


def flipped(drawing):
    """The drawing mirrored: left and right change places."""
    width = drawing.width
    return moved(drawing, width, drawing.height, lambda x, y: (width - x, y))


def scaled(drawing, k):
    """The drawing with all lengths k times."""
    return moved(drawing, k * drawing.width, k * drawing.height, lambda x, y: (k * x, k * y))


def is_upright_at(pair, x):
    """Whether the line between the pair's points goes straight up at this x."""
    return pair[0][0] == x and pair[1][0] == x


def seam(pairs):
    """The pairs that join each of these pairs' points, which are one above the other, with the next."""
    points = points_of(pairs)
    return [(points[k - 1], points[k]) for k in range(1, len(points))]


def joined(first, second):
    """The drawing of both, which are as high, the second to the right of the first."""
    edge = first.width
    beside = moved(second, edge + second.width, second.height, lambda x, y: (edge + x, y))
    pairs = pairs_of(first) + pairs_of(beside)
    # By rule 6 the lines along the edge between the two have all points of it as their ends.
    along = [pair for pair in pairs if is_upright_at(pair, edge)]
    others = [pair for pair in pairs if not is_upright_at(pair, edge)]
    return numbered_anew(beside.width, beside.height, others + seam(along), first.marks + beside.marks)
