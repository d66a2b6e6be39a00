"""The call at: which pane holds a point, and which points none holds."""

import random
import unittest

from glasscartoons.plans import at, judge, pane
from tests.helper import (GREATEST, REFUSED, all_answers, assert_kinds, bent, cartoons, comb, crowded, drawn, fan,
                          frame, greatest_frame, holds_spot, nested, path, ring, spiral, spread, straight_on, the_run)
from tests.test_reference import Reference, along, cartoons_by_chance


class AtCase(unittest.TestCase):
    def assertRefused(self, cartoon, *spots):
        row = cartoon.row()
        for x, y in spots:
            self.assertEqual(at(x, y, row), [-2], (x, y))

    def assertHeld(self, cartoon, i, *spots):
        row = cartoon.row()
        for x, y in spots:
            self.assertEqual(at(x, y, row), [0, i], (x, y))


def whole_points_of(line):
    """The points with whole numbers on a line of a drawing that isn't large."""
    p, q = line
    box = [(x, y) for x in range(min(p[0], q[0]), max(p[0], q[0]) + 1) for y in range(p[1], q[1] + 1)]
    return [spot for spot in box if along(p, q, spot) is not None]


class Within(AtCase):
    def test_each_mark_is_held_by_its_own_pane(self):
        for name, cartoon in cartoons().items():
            with self.subTest(name):
                for i in spread(len(cartoon.marks)):
                    self.assertHeld(cartoon, i, cartoon.marks[i][:2])

    def test_just_beside_the_frame_and_a_line(self):
        self.assertHeld(the_run(), 0, (15, 1), (2, 1), (27, 1), (10, 9))
        self.assertHeld(the_run(), 1, (1, 2), (1, 17), (9, 10))
        self.assertHeld(the_run(), 2, (29, 1), (29, 19), (2, 19), (11, 10))

    def test_at_the_heights_of_points_that_lie_to_the_right(self):
        # To the right of each there are points at its height: a tooth's end, a level line, the frame's edge.
        self.assertHeld(comb(), 0, (15, 10), (35, 10), (35, 39))
        self.assertHeld(comb(), 1, (5, 40), (25, 40), (45, 40), (5, 11), (5, 39), (25, 11), (59, 11))

    def test_at_the_height_of_a_point_at_which_an_outline_turns_back(self):
        # From the height of (30, 10) both of its lines go up, from that of (20, 30) down, from (10, 20) one each.
        way = path((0, 20), (10, 20), (20, 30), (30, 10), (40, 20))
        cartoon = drawn(40, 40, frame(40, 40, (0, 20), (40, 20)) + way, [(20, 1), (20, 39)])
        self.assertHeld(cartoon, 0, (1, 10), (29, 10), (31, 10), (39, 10), (39, 1), (1, 19), (15, 20), (20, 29))
        self.assertHeld(cartoon, 1, (19, 30), (21, 30), (1, 30), (39, 30), (1, 21), (30, 11), (30, 20), (9, 21))

    def test_a_pane_within_others(self):
        self.assertHeld(ring(), 2, (11, 11), (29, 11), (11, 29), (29, 29), (20, 20))
        self.assertHeld(ring(), 0, (9, 8), (31, 10), (31, 30), (20, 9), (39, 1))
        self.assertHeld(ring(), 1, (8, 9), (9, 10), (9, 30), (20, 31), (1, 39), (29, 31))

    def test_in_the_greatest_frame(self):
        side = 1048575
        self.assertHeld(greatest_frame(), 0, (side - 1, 1), (side - 1, side - 2), (2, 1), (500001, 500000))
        self.assertHeld(greatest_frame(), 1, (1, side - 1), (side - 2, side - 1), (1, 2), (500000, 500001))
        self.assertRefused(greatest_frame(), (1, 1), (500000, 500000), (side - 1, side - 1))


class OnLines(AtCase):
    def test_points_of_the_drawing(self):
        for cartoon in (the_run(), comb(), spiral(), ring(), bent(), fan(), straight_on()):
            self.assertRefused(cartoon, *cartoon.points)

    def test_every_whole_point_of_every_line(self):
        for cartoon in (the_run(), comb(), ring(), bent(), straight_on()):
            for first, second in cartoon.lines:
                self.assertRefused(cartoon, *whole_points_of((cartoon.points[first], cartoon.points[second])))

    def test_slanting_level_and_upright_lines(self):
        self.assertRefused(the_run(), (5, 5), (28, 1), (12, 9), (5, 15), (9, 11))
        self.assertRefused(comb(), (5, 10), (15, 40), (10, 11), (10, 39), (40, 25), (59, 10))

    def test_in_a_row_with_a_line_but_beyond_it(self):
        # The line from (0, 0) to (10, 10) goes no further, nor that from (30, 0) to (10, 10).
        self.assertHeld(the_run(), 2, (11, 11), (19, 19))
        self.assertHeld(the_run(), 1, (8, 11), (4, 13))
        self.assertHeld(comb(), 1, (10, 41), (5, 40), (25, 40))

    def test_on_the_frames_edges(self):
        for cartoon in (the_run(), straight_on(), greatest_frame()):
            width, height = cartoon.width, cartoon.height
            for k in (0, 1, 2, 5, 7, 15, height - 1, height):
                self.assertRefused(cartoon, (0, k), (width, k))
            for k in (0, 1, 2, 5, 9, 12, 15, width - 1, width):
                self.assertRefused(cartoon, (k, 0), (k, height))


class Outside(AtCase):
    def test_just_outside(self):
        for name, cartoon in cartoons().items():
            width, height = cartoon.width, cartoon.height
            with self.subTest(name):
                self.assertRefused(cartoon, (width + 1, height + 1), (width + 1, 1), (1, height + 1))
                if len(cartoon.points) < 100:
                    for k in (0, 1, 2, 10, height - 1, height, height + 1):
                        self.assertRefused(cartoon, (width + 1, k))
                    for k in (0, 1, 2, 10, width - 1, width, width + 1):
                        self.assertRefused(cartoon, (k, height + 1))

    def test_at_the_height_of_each_point(self):
        for cartoon in (comb(), spiral(), fan(), bent()):
            for x, y in cartoon.points:
                self.assertRefused(cartoon, (cartoon.width + 1, y), (x, cartoon.height + 1))
                self.assertRefused(cartoon, (GREATEST, y), (x, GREATEST))

    def test_however_great(self):
        for cartoon in (the_run(), comb(), greatest_frame()):
            for i, mark in enumerate(cartoon.marks):
                x, y = mark[0], mark[1]
                self.assertHeld(cartoon, i, (x, y))
                for far in (2 ** 16, 2 ** 20, 2 ** 32, 2 ** 63, 2 ** 64 - 2 ** 20 - 1):
                    self.assertRefused(cartoon, (x, cartoon.height + far), (cartoon.width + far, y))
                self.assertRefused(cartoon, (x + 2 ** 32, y), (x, y + 2 ** 32), (x + 2 ** 32, y + 2 ** 32))
                self.assertRefused(cartoon, (GREATEST, y), (x, GREATEST), (GREATEST, GREATEST))
                self.assertRefused(cartoon, (GREATEST, 0), (0, GREATEST))


class EverySpot(AtCase):
    """Each point with whole numbers is held by just one pane, or on a line, or not within the frame."""

    def assertEverySpot(self, cartoon, heights):
        row = cartoon.row()
        panes = [answer[2:] for answer in all_answers(pane, range(len(cartoon.marks)), cartoon)]
        outlines = [[cartoon.points[number] for number in numbers] for numbers in panes]
        ends = [(cartoon.points[a], cartoon.points[b]) for a, b in cartoon.lines]
        for y in heights:
            for x in range(cartoon.width + 2):
                on_line = any(along(p, q, (x, y)) is not None for p, q in ends if p[1] <= y <= q[1])
                holders = [i for i, corners in enumerate(outlines) if holds_spot(corners, (x, y))]
                within = 0 < x < cartoon.width and 0 < y < cartoon.height
                answer = at(x, y, row)
                if on_line or not within:
                    self.assertEqual(answer, [-2], (x, y))
                else:
                    self.assertEqual([[0, i] for i in holders], [answer], (x, y))

    def test_small_frames(self):
        pairs = frame(16, 16, (3, 0), (16, 9)) + [((3, 0), (16, 9)), ((0, 0), (16, 16))]
        narrow = drawn(16, 16, pairs, [(9, 2), (9, 7), (7, 9)])
        for cartoon in (the_run(), ring(), bent(), straight_on(), narrow):
            self.assertEverySpot(cartoon, range(cartoon.height + 2))

    def test_panes_that_are_not_convex(self):
        self.assertEverySpot(comb(), (0, 1, 9, 10, 11, 25, 39, 40, 41, 49, 50, 51))
        self.assertEverySpot(spiral(), (10, 19, 20, 21, 30, 40, 45, 50, 70, 80, 90, 95))

    def test_beside_the_reference(self):
        found = {}
        for number, cartoon in enumerate(cartoons_by_chance()):
            row = cartoon.row()
            chance = random.Random(number)
            reference = Reference(row)
            spots = [(chance.randint(0, cartoon.width + 1), chance.randint(0, cartoon.height + 1)) for k in range(60)]
            spots += [(chance.randint(0, cartoon.width), y) for x, y in cartoon.points]
            for spot in spots:
                expected = reference.held_by(spot)
                found[expected] = found.get(expected, 0) + 1
                with self.subTest((number, spot)):
                    self.assertEqual(at(spot[0], spot[1], row), [-2] if expected < 0 else [0, expected])
        self.assertTrue(min(found[i] for i in range(-1, 4)) > 50, found)


class Refused(unittest.TestCase):
    def test_bytes_that_are_no_cartoon(self):
        # The first point would be held in the cartoon that comes nearest, the others would be refused by themselves.
        for row, refusal in REFUSED:
            for x, y in ((15, 2), (10, 10), (0, 0), (31, 5), (GREATEST, GREATEST)):
                self.assertEqual(at(x, y, row), refusal)

    def test_the_largest_rows(self):
        row = nested(200).row()
        self.assertEqual(at(1, 1, row + [0] * (60000 - len(row))), [-5, 3, 20])
        row = crowded().row()
        self.assertEqual(at(GREATEST, 0, row), judge(row))


class Kinds(unittest.TestCase):
    def test_answers(self):
        assert_kinds(self, lambda row: [at(x, y, row) for x, y in ((15, 2), (0, 0), (GREATEST, 1))])


if __name__ == "__main__":
    unittest.main()
