"""What comes of a drawing whose points and marks are moved."""

from glasscartoons.drawings import Drawing
from glasscartoons.plane import by_height


def numbered_anew(drawing):
    """The drawing with its points, lines and marks in the order that the rules 4, 5 and 11 ask for."""
    points = sorted(drawing.points, key=by_height)
    numbers = {}
    for number, point in enumerate(points):
        numbers[point] = number
    lines = []
    for line in drawing.lines:
        ends = [numbers[drawing.points[end]] for end in line]
        lines.append((min(ends), max(ends)))
    return Drawing(drawing.width, drawing.height, points, sorted(lines), sorted(drawing.marks, key=by_height))


def moved(drawing, width, height, place_of):
    """The drawing in a frame of this width and height, with each point and mark at the place it comes to."""
    points = [place_of(point[0], point[1]) for point in drawing.points]
    marks = [place_of(mark[0], mark[1]) + mark[2:] for mark in drawing.marks]
    return numbered_anew(Drawing(width, height, points, drawing.lines, marks))


def quarter_turned(drawing):
    """The drawing turned to the left by one quarter."""
    height = drawing.height
    return moved(drawing, height, drawing.width, lambda x, y: (height - y, x))


def flipped(drawing):
    """The drawing mirrored: left and right change places."""
    width = drawing.width
    return moved(drawing, width, drawing.height, lambda x, y: (width - x, y))


def scaled(drawing, k):
    """The drawing with all lengths k times."""
    return moved(drawing, k * drawing.width, k * drawing.height, lambda x, y: (k * x, k * y))
