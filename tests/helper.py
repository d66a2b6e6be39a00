"""Drawings for the tests: how one is put into bytes, and a stock of cartoons."""

import concurrent.futures
import functools
import itertools

from glasscartoons.plans import area, count, next_to, pane

GREATEST = 18446744073709551615
HEAD = 20


def low_first(number, size):
    return list(number.to_bytes(size, "little"))


class Drawn:
    """A drawing as it is to stand in the bytes, with nothing put in order or mended."""

    def __init__(self, width, height, points, lines, marks):
        self.width = width
        self.height = height
        self.points = list(points)
        self.lines = list(lines)
        self.marks = [(m[0], m[1], m[2] if len(m) > 2 else 0, m[3] if len(m) > 3 else 0) for m in marks]

    def changed(self, **parts):
        """Another drawing that differs in the parts told."""
        new = {"width": self.width, "height": self.height, "points": self.points,
               "lines": self.lines, "marks": self.marks}
        new.update(parts)
        return Drawn(**new)

    def row(self):
        row = [0x47, 0x4C, 0x41, 0x31]
        row += low_first(self.width, 4) + low_first(self.height, 4)
        row += low_first(len(self.points), 2) + low_first(len(self.lines), 2) + low_first(len(self.marks), 2)
        row += [0, 0]
        for x, y in self.points:
            row += low_first(x, 4) + low_first(y, 4)
        for first, second in self.lines:
            row += low_first(first, 2) + low_first(second, 2)
        for x, y, glass, painting in self.marks:
            row += low_first(x, 4) + low_first(y, 4) + low_first(glass, 2) + low_first(painting, 2)
        return row

    def point_place(self, point):
        return HEAD + 8 * self.points.index(point)

    def line_place(self, p, q):
        line = tuple(sorted((self.points.index(p), self.points.index(q))))
        return HEAD + 8 * len(self.points) + 4 * self.lines.index(line)

    def mark_place(self, x, y):
        number = [(m[0], m[1]) for m in self.marks].index((x, y))
        return HEAD + 8 * len(self.points) + 4 * len(self.lines) + 12 * number


def read_back(row):
    """The drawing that stands in a row of bytes."""
    rest = list(row[4:])

    def numbers(*sizes):
        return tuple(int.from_bytes(bytes([rest.pop(0) for k in range(size)]), "little") for size in sizes)

    width, height, many_points, many_lines, many_marks, nothing = numbers(4, 4, 2, 2, 2, 2)
    return Drawn(width, height, [numbers(4, 4) for k in range(many_points)], [numbers(2, 2) for k in range(many_lines)],
                 [numbers(4, 4, 2, 2) for k in range(many_marks)])


def by_height(spot):
    return (spot[1], spot[0])


def drawn(width, height, pairs, marks, more_points=()):
    """The drawing with a line between each pair of points, all in the order that the rules ask for."""
    points = sorted({point for pair in pairs for point in pair} | set(more_points), key=by_height)
    numbers = {point: number for number, point in enumerate(points)}
    lines = sorted(tuple(sorted((numbers[p], numbers[q]))) for p, q in pairs)
    return Drawn(width, height, points, lines, sorted(marks, key=by_height))


def path(*points):
    """The pairs along a way."""
    return list(zip(points, points[1:]))


def frame(width, height, *on_edge):
    """The pairs round the frame, with points on its edges besides the corners."""
    points = set(on_edge) | {(0, 0), (width, 0), (0, height), (width, height)}
    pairs = []
    for axis, level in ((1, 0), (1, height), (0, 0), (0, width)):
        pairs += path(*sorted(point for point in points if point[axis] == level))
    return pairs


def edited(row, place, *numbers):
    """The row with these numbers from the place on."""
    return row[:place] + list(numbers) + row[place + len(numbers):]


def the_run():
    """The cartoon of the document's run, number by number as it is told there."""
    points = [(0, 0), (30, 0), (10, 10), (0, 20), (30, 20)]
    lines = [(0, 1), (0, 2), (0, 3), (1, 2), (1, 4), (2, 3), (3, 4)]
    return Drawn(30, 20, points, lines, [(15, 2, 5), (2, 10, 6), (20, 15, 7)])


def one_pane():
    return drawn(16, 16, frame(16, 16), [(8, 8)])


def straight_on():
    """One pane, with points on every edge at which its outline goes straight on."""
    return drawn(20, 16, frame(20, 16, (5, 0), (9, 0), (20, 7), (12, 16), (3, 16), (0, 4), (0, 5)), [(1, 1)])


def greatest_frame():
    """The greatest frame, parted by a line from corner to corner."""
    side = 1048575
    return drawn(side, side, frame(side, side) + [((0, 0), (side, side))],
                 [(side - 1, 1, 65535, 65535), (1, side - 1, 1, 2)])


def fan():
    """Lines from a point within to every other point, on every edge of the frame."""
    on_edge = [(k, 0) for k in range(0, 41, 5)] + [(k, 30) for k in range(0, 41, 5)]
    on_edge += [(0, k) for k in range(5, 30, 5)] + [(40, k) for k in range(5, 30, 5)]
    pairs = frame(40, 30, *on_edge) + [((20, 15), point) for point in on_edge]
    marks = [(k + 2, 1) for k in range(0, 40, 5)] + [(k + 2, 29) for k in range(0, 40, 5)]
    marks += [(1, k + 2) for k in range(0, 30, 5)] + [(39, k + 2) for k in range(0, 30, 5)]
    return drawn(40, 30, pairs, marks)


def comb():
    """Two panes that reach into one another with teeth; the marks are at the heights of the teeth's points."""
    teeth = path((0, 10), (10, 10), (10, 40), (20, 40), (20, 10), (30, 10), (30, 40), (40, 40), (40, 10), (60, 10))
    return drawn(60, 50, frame(60, 50, (0, 10), (60, 10)) + teeth, [(35, 10), (25, 40)])


def spiral():
    """Two panes that wind about one another; a mark is at the height of points of both."""
    way = path((0, 10), (90, 10), (90, 90), (10, 90), (10, 30), (70, 30), (70, 70), (30, 70), (30, 50), (50, 50),
               (50, 40), (20, 40), (20, 80), (80, 80), (80, 20), (0, 20))
    return drawn(100, 100, frame(100, 100, (0, 10), (0, 20)) + way, [(40, 45), (60, 50)])


def ring():
    """A square within the frame that two ways join with it."""
    square = path((10, 10), (30, 10), (30, 30), (10, 30), (10, 10))
    ways = path((0, 0), (5, 5), (10, 10)) + path((30, 30), (40, 40))
    return drawn(40, 40, frame(40, 40) + square + ways, [(20, 5), (5, 20), (20, 20)])


def bent():
    """Points within panes' outlines at which these go straight on, and a pane with a corner that is bent inwards."""
    pairs = frame(24, 24, (8, 0), (16, 0), (12, 24))
    pairs += path((8, 0), (8, 4), (8, 8), (12, 8), (16, 8), (16, 0)) + path((12, 8), (12, 16), (12, 24))
    return drawn(24, 24, pairs, [(12, 4), (4, 8), (20, 8)])


def grid(many_across, many_up, step, with_diagonals):
    """Cells as wide as high, each parted by a diagonal if asked for."""
    width = (many_across - 1) * step
    height = (many_up - 1) * step
    pairs = []
    marks = []
    for j in range(many_up):
        for i in range(many_across):
            x, y = i * step, j * step
            if x < width:
                pairs.append(((x, y), (x + step, y)))
            if y < height:
                pairs.append(((x, y), (x, y + step)))
            if x < width and y < height:
                if with_diagonals:
                    pairs.append(((x, y), (x + step, y + step)))
                    marks += [(x + step - 1, y + 1, i, j), (x + 1, y + step - 1, j, i)]
                else:
                    marks.append((x + 1, y + 1, i, j))
    return drawn(width, height, pairs, marks)


def nested(many_points):
    """Triangles parted in three again and again by a point within them: as many lines as so many points let be."""
    side = 1048575
    pairs = frame(side, side) + [((0, 0), (side, side))]
    triangles = [((0, 0), (side, 0), (side, side)), ((0, 0), (side, side), (0, side))]
    while len(triangles) < 2 + 2 * (many_points - 4):
        a, b, c = triangles.pop(0)
        middle = ((a[0] + b[0] + c[0]) // 3, (a[1] + b[1] + c[1]) // 3)
        pairs += [(a, middle), (b, middle), (c, middle)]
        triangles += [(a, b, middle), (b, c, middle), (c, a, middle)]
    marks = [((a[0] + b[0] + c[0]) // 3, (a[1] + b[1] + c[1]) // 3) for a, b, c in triangles]
    return drawn(side, side, pairs, marks)


def long_way():
    """200 points, of which 196 are on one way up and down across the frame."""
    points = [(5 * k, 10 + 50 * (k % 2)) for k in range(196)]
    return drawn(975, 70, frame(975, 70, points[0], points[-1]) + path(*points), [(2, 2), (2, 68)])


def long_edge():
    """One pane of 200 points."""
    return drawn(200, 16, frame(200, 16, *[(k, 0) for k in range(1, 197)]), [(2, 2)])


def great_fan():
    """200 points, of which one is joined with all others."""
    on_edge = [(5 * k, 0) for k in range(1, 197)]
    pairs = frame(985, 9000, *on_edge) + [((0, 9000), point) for point in on_edge + [(985, 0)]]
    return drawn(985, 9000, pairs, [(5 * k + 2, 1) for k in range(197)] + [(984, 8999)])


def crowded():
    """No cartoon: 200 points, 8192 lines, of which very many cross, 2048 marks."""
    cartoon = nested(200)
    lines = set(cartoon.lines)
    for line in itertools.combinations(range(200), 2):
        if len(lines) < 8192:
            lines.add(line)
    return cartoon.changed(lines=sorted(lines), marks=[(1 + k % 512, 1 + k // 512) for k in range(2048)])


@functools.cache
def cartoons():
    """The stock: names and cartoons."""
    return {
        "the run": the_run(),
        "one pane": one_pane(),
        "straight on": straight_on(),
        "greatest frame": greatest_frame(),
        "fan": fan(),
        "comb": comb(),
        "spiral": spiral(),
        "ring": ring(),
        "bent": bent(),
        "grid": grid(5, 4, 6, False),
        "grid with diagonals": grid(4, 6, 6, True),
        "largest grid": grid(20, 10, 7, True),
        "nested": nested(200),
        "long way": long_way(),
        "long edge": long_edge(),
        "great fan": great_fan(),
    }


# Bytes that are no cartoon, and their refusals.
REFUSED = (
    ([], [-5, 1, 0]),
    ([0] * 19, [-5, 1, 19]),
    ([0] * 20, [-5, 1, 0]),
    (edited(the_run().row(), 18, 1), [-5, 2, 18]),
    (the_run().row()[:-1], [-5, 3, 20]),
    (the_run().row() + [0], [-5, 3, 20]),
    (the_run().changed(marks=[(15, 2), (2, 10), (10, 10)]).row(), [-5, 11, 112]),
    (the_run().changed(marks=[(15, 2), (16, 2)]).row(), [-5, 12, 100]),
    (the_run().changed(marks=[(15, 2)]).row(), [-5, 13, 100]),
    ([0] * 131072, [-5, 1, 0]),
    ([0] * 131073, [-6]),
)


def broken_rows():
    """Bytes that break each of the rules 1 to 13 first, one behind the other, with the rule and the place."""
    run = the_run()
    crossed = drawn(20, 18, frame(20, 18) + [((0, 0), (20, 18)), ((20, 0), (0, 18))], [(10, 1)])
    loose = drawn(20, 18, frame(20, 18), [(9, 9)], more_points=[(5, 6)])
    island = drawn(40, 40, frame(40, 40) + path((10, 12), (30, 10), (20, 30), (10, 12)), [(5, 5), (20, 20)])
    hung = drawn(40, 40, frame(40, 40, (20, 0)) + path((20, 0), (15, 5), (25, 5), (20, 0)), [(5, 5), (20, 4)])
    return (
        (run.row()[:19], 1, 19),
        (edited(run.row(), 3, 0), 1, 0),
        (edited(run.row(), 4, 15), 2, 4),
        (edited(run.row(), 8, 15), 2, 8),
        (edited(run.row(), 12, 3), 2, 12),
        (edited(run.row(), 14, 3), 2, 14),
        (edited(run.row(), 16, 0), 2, 16),
        (edited(run.row(), 19, 1), 2, 18),
        (run.row()[:-1], 3, 20),
        (run.changed(points=[(0, 0), (30, 0), (31, 10), (0, 20), (30, 20)]).row(), 4, 36),
        (run.changed(lines=[(0, 1), (0, 2), (0, 3), (2, 1), (2, 3), (2, 4), (3, 4)]).row(), 5, 72),
        (run.changed(lines=[(0, 1), (0, 2), (0, 3), (1, 2), (2, 3), (3, 4)]).row(), 6, 20),
        (crossed.row(), 7, crossed.line_place((20, 0), (0, 18))),
        (loose.row(), 8, loose.point_place((5, 6))),
        (island.row(), 9, island.point_place((30, 10))),
        (hung.row(), 10, hung.point_place((20, 0))),
        (run.changed(marks=[(15, 2), (2, 10), (10, 10)]).row(), 11, 112),
        (run.changed(marks=[(15, 2), (16, 2)]).row(), 12, 100),
        (run.changed(marks=[(15, 2)]).row(), 13, 100),
    )


class Watched(list):
    """A row that refuses to be changed, if only for a while."""

    def touched(self, *arguments, **named):
        raise RuntimeError("a row that was handed in is changed")

    append = clear = extend = insert = pop = remove = reverse = sort = touched
    __setitem__ = __delitem__ = __iadd__ = __imul__ = touched


def assert_kinds(case, answers):
    """That the answers for a row are lists of whole numbers, the same each time, and that no row is changed."""
    rows = [cartoon.row() for cartoon in cartoons().values()] + [row for row, refusal in REFUSED]
    found = []
    for row in rows:
        before = list(row)
        found.append(answers(row))
        case.assertEqual(row, before)
        for answer in found[-1]:
            case.assertIs(type(answer), list)
            case.assertEqual({type(number) for number in answer}, {int})
    for row, first in reversed(list(zip(rows, found))):
        again = answers(Watched(row))
        case.assertEqual(again, first)
        for answer in again:
            answer[0] = 9
            answer.append(7)
    case.assertEqual([answers(row) for row in rows if len(row) < 1000],
                     [first for row, first in zip(rows, found) if len(row) < 1000])


def spread(many):
    """The numbers below many; if there are many of them, some from the first to the last, as each call takes long."""
    step = 1 if many < 60 else many // 24
    return sorted({*range(0, many, step), many - 1})


def all_answers(call, numbers, cartoon):
    """What the call answers for each of the numbers; of large cartoons, which take long, by several processes."""
    one = functools.partial(call, cartoon=cartoon.row())
    if len(cartoon.points) < 100:
        return [one(number) for number in numbers]
    with concurrent.futures.ProcessPoolExecutor() as pool:
        return list(pool.map(one, numbers, chunksize=8))


def holds_spot(corners, spot):
    """Whether the corners' outline, on no line of which the spot is, holds it: looked for straight up from it."""
    met = 0
    for (px, py), (qx, qy) in zip(corners, corners[1:] + corners[:1]):
        if min(px, qx) <= spot[0] < max(px, qx):
            # The line's height above the spot, times how far it goes to the right.
            above = (py - spot[1]) * (qx - px) + (qy - py) * (spot[0] - px)
            met += (above > 0) == (qx > px)
    return met % 2 == 1


def redrawn(cartoon, width, height, place_of):
    """The cartoon drawn anew in this frame from its points' pairs, each point and mark where it comes to."""
    spots = [place_of(x, y) for x, y in cartoon.points]
    marks = [place_of(x, y) + (glass, painting) for x, y, glass, painting in cartoon.marks]
    return drawn(width, height, [(spots[a], spots[b]) for a, b in cartoon.lines], marks)


def mirrored(cartoon):
    """The cartoon mirrored, drawn anew."""
    return redrawn(cartoon, cartoon.width, cartoon.height, lambda x, y: (cartoon.width - x, y))


def magnified(k, cartoon):
    """The cartoon with all lengths k times, drawn anew."""
    return redrawn(cartoon, k * cartoon.width, k * cartoon.height, lambda x, y: (k * x, k * y))


def side_by_side(first, second):
    """The second cartoon to the right of the first, drawn anew."""
    edge = first.width
    pairs = [(first.points[a], first.points[b]) for a, b in first.lines]
    pairs += [((edge + px, py), (edge + qx, qy)) for (px, py), (qx, qy) in
              [(second.points[a], second.points[b]) for a, b in second.lines]]
    heights = {y for x, y in first.points if x == edge} | {y for x, y in second.points if x == 0}
    pairs = [(p, q) for p, q in pairs if {p[0], q[0]} != {edge}] + path(*[(edge, y) for y in sorted(heights)])
    marks = first.marks + [(edge + mark[0],) + mark[1:] for mark in second.marks]
    return drawn(edge + second.width, first.height, pairs, marks)


def row_behind(answer):
    """The row that is told behind the 0 and how many there are."""
    if answer[0] != 0 or answer[1] != len(answer) - 2:
        raise AssertionError("not a row: %r" % answer[:3])
    return answer[2:]


def assert_panes_go_along(case, cartoon, drawing, place_of, times=1):
    """That each pane is in the new drawing, by its mark: so many times the area, its corners, its neighbours."""
    row, new = cartoon.row(), drawing.row()
    spots = [(x, y) for x, y, glass, painting in drawing.marks]
    numbers = [spots.index(place_of(x, y)) for x, y, glass, painting in cartoon.marks]
    case.assertEqual(count(2, new), count(2, row))
    for i, number in enumerate(numbers):
        case.assertEqual(drawing.marks[number][2:], cartoon.marks[i][2:])
        case.assertEqual(area(number, new), [0, times * area(i, row)[1]])
        corners = {place_of(*cartoon.points[k]) for k in row_behind(pane(i, row))}
        case.assertEqual({drawing.points[k] for k in row_behind(pane(number, new))}, corners)
        beside = sorted(numbers[k] for k in row_behind(next_to(i, row)))
        case.assertEqual(row_behind(next_to(number, new)), beside)


def area_of(corners):
    """Twice the area, as trapezoids down to the height of 0; above 0 if it is to the left of the way round."""
    return sum((px - qx) * (py + qy) for (px, py), (qx, qy) in zip(corners, corners[1:] + corners[:1]))


def pane_faults(cartoon, panes, areas):
    """What is wrong with the answers of pane and of area for each of a cartoon's marks."""
    faults = []
    lines = set(cartoon.lines)
    steps = []
    if not len(panes) == len(areas) == len(cartoon.lines) - len(cartoon.points) + 1 == len(cartoon.marks):
        faults.append("not L - P + 1 panes")
    for i, (pane, area) in enumerate(zip(panes, areas)):
        if pane[0] != 0 or pane[1] != len(pane) - 2 or len(area) != 2 or area[0] != 0:
            faults.append("answers that don't stand as told: %r, %r" % (pane, area))
            continue
        numbers = pane[2:]
        corners = [cartoon.points[number] for number in numbers]
        if len(set(numbers)) < len(numbers) or numbers[0] != min(numbers):
            faults.append("pane %d: a corner twice, or not from the least on" % i)
        around = list(zip(numbers, numbers[1:] + numbers[:1]))
        if not lines.issuperset(tuple(sorted(step)) for step in around):
            faults.append("pane %d: two corners that no line joins" % i)
        steps += around
        if not 0 < area_of(corners) == area[1]:
            faults.append("pane %d: not the area, or not to the left" % i)
        if not holds_spot(corners, cartoon.marks[i]):
            faults.append("pane %d doesn't hold mark %d" % (i, i))
    if len(set(steps)) < len(steps) or {tuple(sorted(step)) for step in steps} != lines:
        faults.append("a line twice to the left of panes, or no part of any")
    if sum(area[1] for area in areas) != 2 * cartoon.width * cartoon.height:
        faults.append("areas that don't come to 2 W H")
    return faults
