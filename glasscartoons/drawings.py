"""What a drawing's bytes tell, where each thing stands in them, and how a drawing is put into bytes."""

LETTERS = (0x47, 0x4C, 0x41, 0x31)
HEAD_BYTES = 20

# Of how many bytes the numbers are: behind the letters; of a point, x, y; of a line, its two points;
# of a mark, x, y, the glass, the painting.
HEAD_SIZES = (4, 4, 2, 2, 2, 2)
POINT_SIZES = (4, 4)
LINE_SIZES = (2, 2)
MARK_SIZES = (4, 4, 2, 2)


class Drawing:
    """A frame's width and height; the points, lines, marks by their numbers, each as the numbers that tell it."""

    def __init__(self, width, height, points, lines, marks):
        self.width = width
        self.height = height
        self.points = points
        self.lines = lines
        self.marks = marks

    def point_place(self, number):
        """The place of a point's first byte; behind the last point, of the first byte that follows."""
        return HEAD_BYTES + sum(POINT_SIZES) * number

    def line_place(self, number):
        """The place of a line's first byte; behind the last line, of the first byte that follows."""
        return self.point_place(len(self.points)) + sum(LINE_SIZES) * number

    def mark_place(self, number):
        """The place of a mark's first byte; behind the last mark, how many bytes there are."""
        return self.line_place(len(self.lines)) + sum(MARK_SIZES) * number


def number_at(row, place, size):
    """The number that stands in so many bytes from the place on, its lowest byte first."""
    number = 0
    for k in range(size):
        number += row[place + k] << (8 * k)
    return number


def numbers_at(row, place, sizes):
    """The numbers that stand from the place on, one behind the other, of so many bytes each."""
    numbers = []
    for size in sizes:
        numbers.append(number_at(row, place, size))
        place += size
    return tuple(numbers)


def things_at(row, place, many, sizes):
    """So many things that stand from the place on, each as its numbers."""
    step = sum(sizes)
    return [numbers_at(row, place + step * k, sizes) for k in range(many)]


def head_of(row):
    """The width, the height, how many points, lines and marks there are, and what stands behind them."""
    return numbers_at(row, len(LETTERS), HEAD_SIZES)


def bytes_told(row):
    """How many bytes there are to be, by the numbers of points, lines and marks in the head."""
    head = head_of(row)
    return HEAD_BYTES + sum(POINT_SIZES) * head[2] + sum(LINE_SIZES) * head[3] + sum(MARK_SIZES) * head[4]


def read_drawing(row):
    """The drawing of bytes that are as many as their head tells."""
    head = head_of(row)
    drawing = Drawing(head[0], head[1], [], [], [])
    # A thing's place goes by how many of those ahead of it there are: these are read first.
    drawing.points = things_at(row, drawing.point_place(0), head[2], POINT_SIZES)
    drawing.lines = things_at(row, drawing.line_place(0), head[3], LINE_SIZES)
    drawing.marks = things_at(row, drawing.mark_place(0), head[4], MARK_SIZES)
    return drawing


def bytes_of(numbers, sizes):
    """Numbers one behind the other, in so many bytes each, the lowest byte first."""
    row = []
    for number, size in zip(numbers, sizes):
        row.extend([(number >> (8 * k)) & 255 for k in range(size)])
    return row


def head_for(drawing):
    """The numbers that stand in the head of a drawing's bytes, in the order of head_of."""
    return (drawing.width, drawing.height, len(drawing.points), len(drawing.lines), len(drawing.marks), 0)


def write_drawing(drawing):
    """The bytes of a drawing."""
    row = list(LETTERS) + bytes_of(head_for(drawing), HEAD_SIZES)
    for point in drawing.points:
        row.extend(bytes_of(point, POINT_SIZES))
    for line in drawing.lines:
        row.extend(bytes_of(line, LINE_SIZES))
    for mark in drawing.marks:
        row.extend(bytes_of(mark, MARK_SIZES))
    return row
