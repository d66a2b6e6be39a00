"""What a drawing's bytes tell, and where each thing stands in them."""

HEAD_BYTES = 20
POINT_BYTES = 8
LINE_BYTES = 4
MARK_BYTES = 12


class Drawing:
    """A frame's width and height; the points x, y, the lines first, second, the marks x, y, by their numbers."""

    def __init__(self, width, height, points, lines, marks):
        self.width = width
        self.height = height
        self.points = points
        self.lines = lines
        self.marks = marks

    def point_place(self, number):
        """The place of a point's first byte; behind the last point, of the first byte that follows."""
        return HEAD_BYTES + POINT_BYTES * number

    def line_place(self, number):
        """The place of a line's first byte; behind the last line, of the first byte that follows."""
        return self.point_place(len(self.points)) + LINE_BYTES * number

    def mark_place(self, number):
        """The place of a mark's first byte; behind the last mark, how many bytes there are."""
        return self.line_place(len(self.lines)) + MARK_BYTES * number


def number_at(row, place, size):
    """The number that stands in so many bytes from the place on, its lowest byte first."""
    number = 0
    for k in range(size):
        number += row[place + k] << (8 * k)
    return number


def bytes_told(row):
    """How many bytes there are to be, by the numbers of points, lines and marks in the head."""
    points = POINT_BYTES * number_at(row, 12, 2)
    lines = LINE_BYTES * number_at(row, 14, 2)
    marks = MARK_BYTES * number_at(row, 16, 2)
    return HEAD_BYTES + points + lines + marks


def pairs_at(row, start, many, step, size):
    """The first two numbers, of so many bytes each, of every thing in a row of many, a step apart."""
    pairs = []
    for k in range(many):
        place = start + step * k
        pairs.append((number_at(row, place, size), number_at(row, place + size, size)))
    return pairs


def read_drawing(row):
    """The drawing of bytes that are as many as their head tells."""
    many_points = number_at(row, 12, 2)
    many_lines = number_at(row, 14, 2)
    many_marks = number_at(row, 16, 2)
    lines_start = HEAD_BYTES + POINT_BYTES * many_points
    marks_start = lines_start + LINE_BYTES * many_lines
    points = pairs_at(row, HEAD_BYTES, many_points, POINT_BYTES, 4)
    lines = pairs_at(row, lines_start, many_lines, LINE_BYTES, 2)
    marks = pairs_at(row, marks_start, many_marks, MARK_BYTES, 4)
    return Drawing(number_at(row, 4, 4), number_at(row, 8, 4), points, lines, marks)
