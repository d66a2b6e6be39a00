"""The whole program: its interface, and what it promises over all calls together."""

import builtins
import contextlib
import inspect
import io
import random
import sys
import unittest
from unittest import mock

from glasscartoons import plans
from glasscartoons.plans import area, at, count, flip, join, judge, next_to, pane, scale, sides, turn, turned
from tests.helper import (GREATEST, REFUSED, Watched, bent, cartoons, comb, drawn, frame, grid, long_edge, long_way,
                          magnified, mirrored, nested, one_pane, pane_faults, path, read_back, ring, side_by_side,
                          straight_on, the_run)
from tests.test_flip import flipped_row
from tests.test_join import joined_row
from tests.test_reference import Reference, along, cartoons_by_chance
from tests.test_scale import scaled_row
from tests.test_sides import side_faults
from tests.test_turn import drawing_turned, turned_row

INTERFACE = {
    "judge": ["cartoon"],
    "count": ["what", "cartoon"],
    "pane": ["i", "cartoon"],
    "area": ["i", "cartoon"],
    "at": ["x", "y", "cartoon"],
    "sides": ["line", "cartoon"],
    "next_to": ["i", "cartoon"],
    "turn": ["quarters", "cartoon"],
    "flip": ["cartoon"],
    "scale": ["k", "cartoon"],
    "join": ["first", "second"],
    "turned": ["px", "py", "qx", "qy", "rx", "ry"],
}

# One call each over a row of bytes, with numbers that are as told.
CALLS = (
    judge,
    lambda row: count(1, row),
    lambda row: pane(0, row),
    lambda row: area(0, row),
    lambda row: at(15, 2, row),
    lambda row: sides(1, row),
    lambda row: next_to(0, row),
    lambda row: turn(1, row),
    flip,
    lambda row: scale(2, row),
    lambda row: join(row, row),
)


def stacked_row(lower, upper):
    """The second on top of the first: both turned so that they stand beside one another, joined, and turned back."""
    return turned_row(1, joined_row(turned_row(3, lower), turned_row(3, upper)))


def windows():
    """Four small cartoons as high and as wide as one another, with points on all edges."""
    crossed = drawn(20, 20, frame(20, 20) + path((0, 0), (7, 8), (20, 20)) + path((20, 0), (7, 8), (0, 20)),
                    [(8, 1, 1, 9), (1, 9, 2, 9), (19, 10, 3, 9), (9, 19, 4, 9)])
    slanting = drawn(20, 20, frame(20, 20, (0, 5), (20, 11), (4, 20)) + [((0, 5), (20, 11))],
                     [(10, 2, 500, 600), (3, 19, 700, 800)])
    uneven = drawn(20, 20, frame(20, 20, (0, 5), (0, 6), (20, 5), (9, 0), (9, 20), (3, 20)), [(1, 1, 65535, 65535)])
    cell = drawn(20, 20, frame(20, 20, (10, 0), (0, 10), (20, 10), (10, 20)) + path(
        (10, 0), (20, 10), (10, 20), (0, 10), (10, 0)), [(1, 1), (19, 1), (10, 10), (1, 19), (19, 19)])
    return crossed, slanting, uneven, cell


def made_by_chance(seed):
    """Bytes that come of a small cartoon by some moves, one behind the other, and the same drawn anew."""
    chance = random.Random(seed)
    cartoon = chance.choice((the_run(), one_pane(), bent(), straight_on()) + windows())
    row = cartoon.row()
    for k in range(chance.randint(2, 5)):
        what = chance.choice(("turn", "flip", "scale", "join", "join itself"))
        if what == "turn":
            quarters = chance.randint(0, 3)
            row = turned_row(quarters, row)
            cartoon = drawing_turned(cartoon, quarters)
        elif what == "flip":
            row, cartoon = flipped_row(row), mirrored(cartoon)
        elif what == "scale" and max(cartoon.width, cartoon.height) < 1000:
            times = chance.choice((1, 2, 3))
            row, cartoon = scaled_row(times, row), magnified(times, cartoon)
        elif what == "join itself" and len(cartoon.points) < 40:
            row, cartoon = joined_row(row, row), side_by_side(cartoon, cartoon)
        elif what == "join" and len(cartoon.points) < 40:
            middle = cartoon.height // 2
            other = drawn(16, cartoon.height, frame(16, cartoon.height, (0, middle), (16, middle)) + [
                ((0, middle), (16, middle))], [(2, 2, seed, k), (2, middle + 2, k, seed)])
            row, cartoon = joined_row(other.row(), row), side_by_side(other, cartoon)
    return row, cartoon


class Interface(unittest.TestCase):
    def test_names_and_arguments(self):
        for name, arguments in INTERFACE.items():
            self.assertEqual(list(inspect.signature(getattr(plans, name)).parameters), arguments, name)

    def test_arguments_by_their_names(self):
        row = the_run().row()
        self.assertEqual(count(what=2, cartoon=row), [0, 3])
        self.assertEqual(at(x=9, y=10, cartoon=row), [0, 1])
        self.assertEqual(scale(k=1, cartoon=row), [0, 124] + row)
        self.assertEqual(join(first=row, second=row)[:2], [0, 208])
        self.assertEqual(turned(px=0, py=0, qx=1, qy=0, rx=1, ry=1), [0, 1])

    def test_it_prints_reads_and_imports_nothing(self):
        out, err = io.StringIO(), io.StringIO()
        rows = [the_run().row(), comb().row()] + [row for row, refusal in REFUSED]
        forbidden = mock.Mock(side_effect=RuntimeError("not to be called"))
        with contextlib.redirect_stdout(out), contextlib.redirect_stderr(err), mock.patch.multiple(
                builtins, __import__=forbidden, open=forbidden, input=forbidden, print=forbidden):
            for row in rows:
                for call in CALLS:
                    call(row)
            turned(1, 2, 3, 4, 5, 6)
        self.assertEqual((out.getvalue(), err.getvalue()), ("", ""))

    def test_few_calls_within_one_another(self):
        limit = sys.getrecursionlimit()
        rows = [cartoon.row() for cartoon in (long_way(), long_edge(), nested(200), grid(20, 10, 7, True))]
        expected = [[call(row) for call in CALLS] for row in rows]
        sys.setrecursionlimit(len(inspect.stack()) + 30)
        try:
            found = [[call(row) for call in CALLS] for row in rows]
        finally:
            sys.setrecursionlimit(limit)
        self.assertEqual(found, expected)

    def test_whatever_was_called_before(self):
        rows = [cartoon.row() for cartoon in (the_run(), comb(), bent(), one_pane())] + [row for row, why in REFUSED]
        calls = [(call, row) for call in CALLS for row in rows]
        expected = [call(row) for call, row in calls]
        for seed in range(3):
            order = list(range(len(calls)))
            random.Random(seed).shuffle(order)
            for k in order:
                call, row = calls[k]
                self.assertEqual(call(Watched(row)), expected[k])

    def test_what_was_handed_in_may_be_changed_behind_a_call(self):
        row = the_run().row()
        answers = [call(row) for call in CALLS]
        copies = [list(answer) for answer in answers]
        for k in range(len(row)):
            row[k] = 0
        self.assertEqual(answers, copies)
        self.assertEqual([call(row) for call in CALLS], [[-5, 1, 0]] * len(CALLS))


class FirstLookedAt(unittest.TestCase):
    """Each call over bytes that are no cartoon, with numbers that would be refused too."""

    def test_numbers_that_are_not_as_told(self):
        for row, refusal in REFUSED:
            for number in (3, 4, GREATEST):
                self.assertEqual(count(number, row), [-1])
            for number in (4, GREATEST):
                self.assertEqual(turn(number, row), [-1])
            self.assertEqual(scale(0, row), [-1])

    def test_bytes_come_ahead_of_what_is_not_there(self):
        for row, refusal in REFUSED:
            for answer in (pane(GREATEST, row), area(GREATEST, row), at(GREATEST, 0, row), sides(GREATEST, row),
                           next_to(GREATEST, row), scale(GREATEST, row), join(row, the_run().row())):
                self.assertEqual(answer, refusal)


class Promises(unittest.TestCase):
    def assertPromised(self, cartoon):
        """Promises 1 and 3, and of promise 2 what the marks tell."""
        row = cartoon.row()
        many = len(cartoon.marks)
        panes, areas = [pane(i, row) for i in range(many)], [area(i, row) for i in range(many)]
        self.assertEqual(pane_faults(cartoon, panes, areas), [])
        self.assertEqual(count(2, row), [0, count(1, row)[1] - count(0, row)[1] + 1])
        self.assertEqual(sum(twice for nothing, twice in areas), 2 * cartoon.width * cartoon.height)
        numbers = range(len(cartoon.lines))
        self.assertEqual(side_faults(cartoon, numbers, [sides(k, row) for k in numbers], panes), [])
        self.assertEqual([at(mark[0], mark[1], row) for mark in cartoon.marks], [[0, i] for i in range(many)])
        across = {(i, i) for i in range(many)}
        for answer in (sides(k, row) for k in numbers):
            across |= {(answer[1], answer[2]), (answer[2], answer[1])}
        for i in range(many):
            beside = [j for j in range(many) if j != i and (i, j) in across]
            self.assertEqual(next_to(i, row), [0, len(beside)] + beside)

    def test_small_ones(self):
        for cartoon in (the_run(), one_pane(), bent(), straight_on(), comb(), ring()) + windows():
            self.assertEqual(judge(cartoon.row()), [0])
            self.assertPromised(cartoon)

    def test_what_comes_of_moves(self):
        for seed in range(60):
            row, cartoon = made_by_chance(seed)
            with self.subTest(seed):
                self.assertEqual(row, cartoon.row())
                self.assertEqual(Reference(row).judged(), [0])
                self.assertEqual(judge(row), [0])
                self.assertPromised(read_back(row))

    def test_every_point_of_a_small_frame(self):
        one, two, three, four = [cartoon.row() for cartoon in windows()]
        moved = turned_row(1, joined_row(flipped_row(two), one))
        for row in (one, four, joined_row(one, two), stacked_row(two, three), moved):
            cartoon, reference = read_back(row), Reference(row)
            ends = [(cartoon.points[a], cartoon.points[b]) for a, b in cartoon.lines]
            for x in range(cartoon.width + 2):
                for y in range(cartoon.height + 2):
                    holder = reference.held_by((x, y))
                    self.assertEqual(at(x, y, row), [-2] if holder < 0 else [0, holder], (x, y))
                    within = 0 < x < cartoon.width and 0 < y < cartoon.height
                    on_line = any(along(p, q, (x, y)) is not None for p, q in ends)
                    self.assertEqual(holder >= 0, within and not on_line)


class OneBehindTheOther(unittest.TestCase):
    def pairs(self):
        return [(first.row(), second.row()) for first in windows() for second in windows()]

    def test_joined_and_mirrored(self):
        for first, second in self.pairs():
            self.assertEqual(flipped_row(joined_row(first, second)),
                             joined_row(flipped_row(second), flipped_row(first)))

    def test_joined_and_turned_by_two_quarters(self):
        for first, second in self.pairs():
            self.assertEqual(turned_row(2, joined_row(first, second)),
                             joined_row(turned_row(2, second), turned_row(2, first)))

    def test_joined_and_magnified(self):
        for first, second in self.pairs():
            self.assertEqual(scaled_row(3, joined_row(first, second)),
                             joined_row(scaled_row(3, first), scaled_row(3, second)))

    def test_joined_up_to_the_greatest_width(self):
        # 40 goes 26214 times into 1,048,575, so that the frame is 1,048,560 wide: 15 less, and no cartoon is narrower.
        first, second = self.pairs()[1]
        row = joined_row(scaled_row(26214, first), scaled_row(26214, second))
        self.assertEqual(row, scaled_row(26214, joined_row(first, second)))
        self.assertEqual(scale(26215, joined_row(first, second)), [-6])
        self.assertEqual(join(scaled_row(26215, first), scaled_row(26215, second)), [-6])
        narrow = drawn(16, 26214 * 20, frame(16, 26214 * 20), [(1, 1)]).row()
        self.assertEqual(join(row, narrow), [-6])
        self.assertEqual(join(narrow, row), [-6])

    def test_four_in_a_square(self):
        one, two, three, four = [cartoon.row() for cartoon in windows()]
        rows = stacked_row(joined_row(one, two), joined_row(three, four))
        columns = joined_row(stacked_row(one, three), stacked_row(two, four))
        self.assertEqual(rows, columns)
        self.assertEqual(judge(rows), [0])
        self.assertEqual(read_back(rows).width, 40)
        self.assertEqual(count(2, rows), [0, 12])

    def test_turned_and_mirrored(self):
        # Turned by a quarter and mirrored, twice over, it's itself.
        for cartoon in windows() + (the_run(), bent()):
            row = cartoon.row()
            for quarters in range(4):
                once = flipped_row(turned_row(quarters, row))
                self.assertEqual(flipped_row(turned_row(quarters, once)), row)

    def test_what_turning_back_undoes(self):
        for number, cartoon in enumerate(cartoons_by_chance()[:30]):
            row = cartoon.row()
            with self.subTest(number):
                away = scaled_row(2, turned_row(1, flipped_row(row)))
                self.assertEqual(flipped_row(turned_row(3, away)), scaled_row(2, row))

    def test_a_cartoons_bytes_are_its_own(self):
        # Whatever way a drawing comes about, it has the same bytes; another order of its parts is refused.
        for name, cartoon in cartoons().items():
            if len(cartoon.points) < 50:
                row = cartoon.row()
                self.assertEqual(scaled_row(1, row), row)
                swapped = cartoon.changed(points=[cartoon.points[1], cartoon.points[0]] + cartoon.points[2:])
                self.assertEqual(judge(swapped.row()), [-5, 4, 28])
                swapped = cartoon.changed(lines=[cartoon.lines[1], cartoon.lines[0]] + cartoon.lines[2:])
                self.assertEqual(judge(swapped.row())[:2], [-5, 5])
                if len(cartoon.marks) > 1:
                    swapped = cartoon.changed(marks=[cartoon.marks[1], cartoon.marks[0]] + cartoon.marks[2:])
                    self.assertEqual(judge(swapped.row()), [-5, 11, cartoon.mark_place(*cartoon.marks[1][:2])])


if __name__ == "__main__":
    unittest.main()
