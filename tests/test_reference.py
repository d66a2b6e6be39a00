"""The program beside a slow second one, which goes by the document's words in other ways.

It solves where lines meet with fractions, and finds panes by cutting the frame into level strips at the heights of all
points: in a strip lines part cells, and cells of two strips are in one pane if they meet along more than a point.
"""

import functools
import random
import unittest
from fractions import Fraction

from glasscartoons.plans import count, judge
from tests.helper import by_height, cartoons, drawn, frame

SEEDS = 120


def numbers_of(row):
    def number(place, size):
        return int.from_bytes(bytes(row[place:place + size]), "little")

    return number


class Reference:
    def __init__(self, row):
        number = numbers_of(row)
        self.size = len(row)
        self.width, self.height = number(4, 4), number(8, 4)
        many_points, many_lines, many_marks = number(12, 2), number(14, 2), number(16, 2)
        self.lines_start = 20 + 8 * many_points
        self.marks_start = self.lines_start + 4 * many_lines
        self.points = [(number(20 + 8 * k, 4), number(24 + 8 * k, 4)) for k in range(many_points)]
        self.lines = [(number(self.lines_start + 4 * k, 2), number(self.lines_start + 4 * k + 2, 2))
                      for k in range(many_lines)]
        self.marks = [(number(self.marks_start + 12 * k, 4), number(self.marks_start + 12 * k + 4, 4))
                      for k in range(many_marks)]

    def judged(self):
        """The rule from 4 on that is broken first, and its place; None if none is."""
        for rule in range(4, 14):
            places = list(getattr(self, "rule_%d" % rule)())
            if places:
                return [-5, rule, min(places)]
        return [0]

    def rule_4(self):
        for k, (x, y) in enumerate(self.points):
            if x > self.width or y > self.height:
                yield 20 + 8 * k
            if k and by_height(self.points[k - 1]) >= by_height((x, y)):
                yield 20 + 8 * k

    def rule_5(self):
        for k, (first, second) in enumerate(self.lines):
            if not first < second < len(self.points) or (k and self.lines[k - 1] >= (first, second)):
                yield self.lines_start + 4 * k

    def rule_6(self):
        for corner in ((0, 0), (self.width, 0), (0, self.height), (self.width, self.height)):
            if corner not in self.points:
                yield 20
        for axis, level in ((1, 0), (1, self.height), (0, 0), (0, self.width)):
            row = sorted(point for point in self.points if point[axis] == level)
            for p, q in zip(row, row[1:]):
                if tuple(sorted((self.points.index(p), self.points.index(q)))) not in self.lines:
                    yield 20

    def rule_7(self):
        for k, line in enumerate(self.lines):
            p, q = self.points[line[0]], self.points[line[1]]
            on_it = any(along(p, q, r) is not None for j, r in enumerate(self.points) if j not in line)
            before = self.lines[:k]
            if on_it or any(meet_within(p, q, self.points[c], self.points[d]) for c, d in before):
                yield self.lines_start + 4 * k

    def rule_8(self):
        for k in range(len(self.points)):
            if sum(k in line for line in self.lines) < 2:
                yield 20 + 8 * k

    def groups(self, left_out):
        """For each point but the one left out, the least one that it has a way to."""
        group = {k: k for k in range(len(self.points)) if k != left_out}
        changed = True
        while changed:
            changed = False
            for a, b in self.lines:
                if left_out not in (a, b) and group[a] != group[b]:
                    group[a] = group[b] = min(group[a], group[b])
                    changed = True
        return group

    def rule_9(self):
        for k, least in self.groups(None).items():
            if least != 0:
                yield 20 + 8 * k

    def rule_10(self):
        for k in range(len(self.points)):
            if len(set(self.groups(k).values())) > 1:
                yield 20 + 8 * k

    def rule_11(self):
        for k, (x, y) in enumerate(self.marks):
            on_some = any(along(self.points[a], self.points[b], (x, y)) is not None for a, b in self.lines)
            behind = k == 0 or by_height(self.marks[k - 1]) < by_height((x, y))
            if not (0 < x < self.width and 0 < y < self.height and behind) or on_some:
                yield self.marks_start + 12 * k

    @functools.cached_property
    def strips(self):
        return Strips(self)

    def rule_12(self):
        seen = set()
        for k, mark in enumerate(self.marks):
            pane = self.strips.pane_at(mark)
            if pane in seen:
                yield self.marks_start + 12 * k
            seen.add(pane)

    def rule_13(self):
        if len(self.strips.panes()) > len(self.marks):
            yield self.size

    @functools.cached_property
    def marked(self):
        """For each pane, by the cell that stands for it, its mark's number."""
        return {self.strips.pane_at(mark): number for number, mark in enumerate(self.marks)}

    def held_by(self, spot):
        """The number of the pane that holds the spot; -1 if the spot is on a line or not within the frame."""
        if not (0 < spot[0] < self.width and 0 < spot[1] < self.height):
            return -1
        if any(along(self.points[a], self.points[b], spot) is not None for a, b in self.lines):
            return -1
        return self.marked[self.strips.pane_at(spot)]

    def left_of(self, first, second):
        """The number of the pane to the left of a line; it is looked for very near to the line's middle."""
        (px, py), (qx, qy) = self.points[first], self.points[second]
        near = Fraction(1, 2 ** 64)
        return self.held_by((Fraction(px + qx, 2) - (qy - py) * near, Fraction(py + qy, 2) + (qx - px) * near))


def along(p, q, r):
    """How far along the line p q the point r is, from 0 to 1; None if it is not on it."""
    part = Fraction(r[0] - p[0], q[0] - p[0]) if q[0] != p[0] else Fraction(r[1] - p[1], q[1] - p[1])
    if 0 <= part <= 1 and (p[0] + part * (q[0] - p[0]), p[1] + part * (q[1] - p[1])) == r:
        return part
    return None


def meet_within(p, q, r, s):
    """Whether the lines p q and r s have a point in common that is an end of neither."""
    px, py, rx, ry = q[0] - p[0], q[1] - p[1], s[0] - r[0], s[1] - r[1]
    slant = px * ry - py * rx
    if slant == 0:
        parts = sorted(part for part in (along(p, q, r), along(p, q, s)) if part is not None)
        parts += [other for other, end in ((0, p), (1, q)) if along(r, s, end) is not None]
        return len(set(parts)) > 1
    one = Fraction((r[0] - p[0]) * ry - (r[1] - p[1]) * rx, slant)
    two = Fraction((r[0] - p[0]) * py - (r[1] - p[1]) * px, slant)
    return 0 < one < 1 and 0 < two < 1


class Strips:
    def __init__(self, drawing):
        points = drawing.points
        ends = [(points[a], points[b]) for a, b in drawing.lines]
        self.heights = sorted({y for x, y in points})
        self.walls = []
        for low, high in zip(self.heights, self.heights[1:]):
            middle = Fraction(low + high, 2)
            walls = [(p, q) for p, q in ends if p[1] <= low and q[1] >= high]
            self.walls.append(sorted(walls, key=lambda wall, level=middle: across(wall, level)))
        self.above = {(k, j): (k, j) for k, walls in enumerate(self.walls) for j in range(len(walls) - 1)}
        self.join_strips([(p, q) for p, q in ends if p[1] == q[1]])

    def root(self, cell):
        while self.above[cell] != cell:
            cell = self.above[cell]
        return cell

    def span(self, cell, level):
        walls = self.walls[cell[0]]
        return across(walls[cell[1]], level), across(walls[cell[1] + 1], level)

    def join_strips(self, flat):
        for k in range(len(self.walls) - 1):
            level = self.heights[k + 1]
            shut = [(p[0], q[0]) for p, q in flat if p[1] == level]
            for j in range(len(self.walls[k]) - 1):
                for i in range(len(self.walls[k + 1]) - 1):
                    one, two = self.span((k, j), level), self.span((k + 1, i), level)
                    left, right = max(one[0], two[0]), min(one[1], two[1])
                    if left < right and not covered(left, right, shut):
                        self.above[self.root((k, j))] = self.root((k + 1, i))

    def panes(self):
        """Twice the area of each pane, by the cell that stands for it."""
        areas = {}
        for cell in self.above:
            low, high = self.heights[cell[0]], self.heights[cell[0] + 1]
            below, above = self.span(cell, low), self.span(cell, high)
            twice = (high - low) * (below[1] - below[0] + above[1] - above[0])
            areas[self.root(cell)] = areas.get(self.root(cell), 0) + twice
        return areas

    def pane_at(self, spot):
        k = max(k for k, height in enumerate(self.heights) if height <= spot[1])
        for j in range(len(self.walls[k]) - 1):
            left, right = self.span((k, j), spot[1])
            if left < spot[0] < right:
                return self.root((k, j))
        raise LookupError(spot)


def across(wall, level):
    (px, py), (qx, qy) = wall
    return px + Fraction((qx - px) * (level - py), (qy - py))


def covered(left, right, shut):
    """Whether the flat lines leave no gap from left to right."""
    place = left
    for start, end in sorted(shut):
        if start <= place < end:
            place = end
    return place >= right


def random_cartoon(chance):
    """A cartoon made by chance: lines are put in wherever they cross none, then some are left out again."""
    step = chance.choice((3, 4, 6, 12))
    across_many, up_many = chance.randint(2, 5), chance.randint(2, 5)
    width, height = max(16, step * across_many), max(16, step * up_many)
    spots = [(chance.randint(0, width // step) * step, chance.randint(0, height // step) * step)
             for k in range(chance.randint(0, 9))]
    spots += [(chance.randint(0, width), chance.randint(0, height)) for k in range(chance.randint(0, 4))]
    on_edge = [(x, y) for x, y in spots if x in (0, width) or y in (0, height)]
    pairs = [tuple(sorted(pair, key=by_height)) for pair in frame(width, height, *on_edge)]
    points = sorted(set(spots) | {point for pair in pairs for point in pair}, key=by_height)
    inner = [(p, q) for p in points for q in points if by_height(p) < by_height(q) and (p, q) not in pairs]
    chance.shuffle(inner)
    for p, q in inner:
        clear = all(along(p, q, r) is None for r in points if r not in (p, q))
        if clear and not any(meet_within(p, q, r, s) for r, s in pairs):
            pairs.append((p, q))
    many = len(frame(width, height, *on_edge))
    return thinned(chance, drawn(width, height, pairs, []), pairs[:many], pairs[many:])


@functools.cache
def cartoons_by_chance():
    """Those of the seeds' drawings that have room for a mark in each pane."""
    drawings = [random_cartoon(random.Random(seed)) for seed in range(SEEDS)]
    return [drawing for drawing in drawings if drawing.marks and judge(drawing.row()) == [0]]


def several():
    """Cartoons of the stock that aren't large, and some made by chance, by their names."""
    small = {name: cartoon for name, cartoon in cartoons().items() if len(cartoon.points) < 50}
    small.update((number, cartoon) for number, cartoon in enumerate(cartoons_by_chance()[:50]))
    return small


def thinned(chance, full, kept, inner):
    """Lines left out while the rules hold; a mark in each pane that has room for one."""
    chance.shuffle(inner)
    for pair in inner[:chance.randint(0, len(inner))]:
        fewer = [other for other in inner if other != pair]
        sketch = Reference(drawn(full.width, full.height, kept + fewer, [], more_points=full.points).row())
        if not any(list(rule()) for rule in (sketch.rule_8, sketch.rule_9, sketch.rule_10)):
            inner = fewer
    bare = drawn(full.width, full.height, kept + inner, [], more_points=full.points)
    sketch = Reference(bare.row())
    strips = Strips(sketch)
    many = len(strips.panes())
    spots = [(x, y) for x in range(1, full.width) for y in range(1, full.height)]
    chance.shuffle(spots)
    marks = {}
    for spot in spots:
        if len(marks) < many:
            if all(along(sketch.points[a], sketch.points[b], spot) is None for a, b in sketch.lines):
                marks.setdefault(strips.pane_at(spot), spot + (chance.randint(0, 65535), chance.randint(0, 65535)))
    return bare.changed(marks=sorted(marks.values(), key=by_height))


def on_frame(cartoon, line):
    """Whether the line lies on an edge of the frame."""
    (px, py), (qx, qy) = cartoon.points[line[0]], cartoon.points[line[1]]
    return (px == qx and px in (0, cartoon.width)) or (py == qy and py in (0, cartoon.height))


def spoiled(chance, cartoon):
    """The cartoon with a thing or two changed by chance, most often so that the first rules still hold."""
    points, lines, marks = list(cartoon.points), list(cartoon.lines), list(cartoon.marks)
    for k in range(chance.randint(1, 2)):
        what = chance.choice(("lines out", "line out", "line in", "point", "mark out", "mark in", "mark", "swap"))
        if what == "lines out":
            lines = [line for line in lines if on_frame(cartoon, line) or chance.random() < 0.6]
        elif what == "line out":
            lines.pop(chance.randrange(len(lines)))
        elif what == "line in":
            lines = sorted(set(lines) | {tuple(sorted(chance.sample(range(len(points)), 2)))})
        elif what == "point":
            j = chance.randrange(len(points))
            points[j] = (abs(points[j][0] + chance.randint(-3, 3)), abs(points[j][1] + chance.randint(-3, 3)))
        elif what == "mark out" and len(marks) > 1:
            marks.pop(chance.randrange(len(marks)))
        elif what in ("mark in", "mark") and marks:
            if what == "mark":
                marks.pop(chance.randrange(len(marks)))
            marks.append((chance.randint(0, cartoon.width), chance.randint(0, cartoon.height), 0, 0))
            marks = sorted(marks, key=by_height)
        else:
            row = chance.choice((points, lines, marks))
            if row:
                j = chance.randrange(len(row))
                row[j - 1], row[j] = row[j], row[j - 1]
    return cartoon.changed(points=points, lines=lines, marks=marks)


def hung(chance, cartoon):
    """The cartoon with one more small triangle, which is by itself or hangs on a point, if it crosses nothing."""
    pairs = [(cartoon.points[a], cartoon.points[b]) for a, b in cartoon.lines]
    x, y = chance.randint(0, cartoon.width - 3), chance.randint(0, cartoon.height - 3)
    if chance.random() < 0.7:
        x, y = chance.choice(cartoon.points)
        x, y = min(x, cartoon.width - 3), min(y, cartoon.height - 3)
    corners = [(x + i, y + j) for i, j in chance.sample(((0, 0), (3, 0), (1, 2), (0, 3), (3, 2)), 3)]
    pairs = {tuple(sorted(pair)) for pair in pairs + list(zip(corners, corners[1:] + corners[:1]))}
    return drawn(cartoon.width, cartoon.height, sorted(pairs), cartoon.marks)


class BesideTheReference(unittest.TestCase):
    def assertAlike(self, row):
        reference = Reference(row)
        expected = reference.judged()
        self.assertEqual(judge(row), expected)
        if expected == [0]:
            self.assertEqual(count(2, row), [0, len(reference.strips.panes())])
        return expected

    def test_the_stock(self):
        for name, cartoon in cartoons().items():
            if len(cartoon.points) < 50:
                with self.subTest(name):
                    self.assertEqual(self.assertAlike(cartoon.row()), [0])

    def test_by_chance(self):
        found = {}
        for seed in range(SEEDS):
            chance = random.Random(seed)
            cartoon = random_cartoon(chance)
            rows = [cartoon.row()] + [spoiled(chance, cartoon).row() for k in range(8)]
            rows += [hung(chance, cartoon).row() for k in range(4)]
            for number, row in enumerate(rows):
                if row[16:18] != [0, 0] and row[14] >= 4:
                    with self.subTest((seed, number)):
                        answer = self.assertAlike(row)
                        rule = answer[1] if len(answer) > 1 else 0
                        found[rule] = found.get(rule, 0) + 1
        # Each rule is met often enough to tell something.
        for rule in (0, 4, 5, 6, 7, 8, 9, 10, 11, 12, 13):
            self.assertGreater(found.get(rule, 0), 5, (rule, found))


if __name__ == "__main__":
    unittest.main()
