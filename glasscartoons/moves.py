"""What comes of a drawing whose points and marks are moved."""

from glasscartoons.drawings import Drawing
from glasscartoons.plane import by_height


def numbered_anew(drawing):
    """The drawing with its points, lines and marks in the order that the rules 4, 5 and 11 ask for."""
    points = sorted(drawing.points, key=by_height)
    numbers = {}
    for number, point in enumerate(points):
        numbers[point] = number
    lines = []
    for line in drawing.lines:
        ends = [numbers[drawing.points[end]] for end in line]
        lines.append((min(ends), max(ends)))
    return Drawing(drawing.width, drawing.height, points, sorted(lines), sorted(drawing.marks, key=by_height))


def quarter_turned(drawing):
    """The drawing turned to the left by one quarter."""
    height = drawing.height
    points = [(height - point[1], point[0]) for point in drawing.points]
    marks = [(height - mark[1], mark[0], mark[2], mark[3]) for mark in drawing.marks]
    return numbered_anew(Drawing(height, drawing.width, points, drawing.lines, marks))
