"""The call turn: a cartoon turned to the left by quarters."""

import functools
import unittest

from glasscartoons.plans import at, judge, turn
from tests.helper import (GREATEST, REFUSED, Drawn, assert_kinds, assert_panes_go_along, bent, cartoons, comb, crowded,
                          drawn, fan, frame, greatest_frame, grid, nested, one_pane, redrawn, ring, row_behind, spiral,
                          straight_on, the_run)
from tests.test_reference import Reference, cartoons_by_chance, several


def spot_turned(cartoon, quarters, x, y):
    """Where a spot comes to."""
    width, height = cartoon.width, cartoon.height
    return ((x, y), (height - y, x), (width - x, height - y), (y, width - x))[quarters]


def drawing_turned(cartoon, quarters):
    """The cartoon turned, drawn anew."""
    width, height = (cartoon.height, cartoon.width) if quarters % 2 else (cartoon.width, cartoon.height)
    return redrawn(cartoon, width, height, functools.partial(spot_turned, cartoon, quarters))


def turned_row(quarters, row):
    """The bytes of what comes of it."""
    return row_behind(turn(quarters, row))


class Turned(unittest.TestCase):
    def test_by_hand(self):
        # A point within nearer to the left and to the bottom, a mark in each of the four panes.
        points = [(0, 0), (40, 0), (10, 5), (0, 20), (40, 20)]
        lines = [(0, 1), (0, 2), (0, 3), (1, 2), (1, 4), (2, 3), (2, 4), (3, 4)]
        row = Drawn(40, 20, points, lines, [(11, 1, 1, 10), (1, 7, 2, 20), (39, 8, 3, 30), (9, 18, 4, 40)]).row()
        once = Drawn(20, 40, [(0, 0), (20, 0), (15, 10), (0, 40), (20, 40)],
                     [(0, 1), (0, 2), (0, 3), (1, 2), (1, 4), (2, 3), (2, 4), (3, 4)],
                     [(13, 1, 2, 20), (2, 9, 4, 40), (19, 11, 1, 10), (12, 39, 3, 30)])
        twice = Drawn(40, 20, [(0, 0), (40, 0), (30, 15), (0, 20), (40, 20)], lines,
                      [(31, 2, 4, 40), (1, 12, 3, 30), (39, 13, 2, 20), (29, 19, 1, 10)])
        thrice = Drawn(20, 40, [(0, 0), (20, 0), (5, 30), (0, 40), (20, 40)], lines,
                       [(8, 1, 3, 30), (1, 29, 1, 10), (18, 31, 4, 40), (7, 39, 2, 20)])
        self.assertEqual(turn(0, row), [0, 140] + row)
        self.assertEqual(turn(1, row), [0, 140] + once.row())
        self.assertEqual(turn(2, row), [0, 140] + twice.row())
        self.assertEqual(turn(3, row), [0, 140] + thrice.row())

    def test_lines_are_numbered_anew(self):
        # One line from the lower left to the upper right comes to go from the lower right to the upper left.
        cartoon = drawn(20, 30, frame(20, 30) + [((0, 0), (20, 30))], [(10, 1, 1), (10, 29, 2)])
        self.assertEqual(cartoon.lines, [(0, 1), (0, 2), (0, 3), (1, 3), (2, 3)])
        once = Drawn(30, 20, [(0, 0), (30, 0), (0, 20), (30, 20)], [(0, 1), (0, 2), (1, 2), (1, 3), (2, 3)],
                     [(1, 10, 2), (29, 10, 1)])
        self.assertEqual(turned_row(1, cartoon.row()), once.row())

    def test_the_stock(self):
        for name, cartoon in cartoons().items():
            row = cartoon.row()
            for quarters in range(4):
                with self.subTest((name, quarters)):
                    self.assertEqual(turn(quarters, row), [0, len(row)] + drawing_turned(cartoon, quarters).row())

    def test_by_chance(self):
        for number, cartoon in enumerate(cartoons_by_chance()):
            row = cartoon.row()
            for quarters in range(4):
                with self.subTest((number, quarters)):
                    self.assertEqual(turn(quarters, row), [0, len(row)] + drawing_turned(cartoon, quarters).row())

    def test_by_none_it_is_the_same(self):
        for name, cartoon in cartoons().items():
            with self.subTest(name):
                self.assertEqual(turn(0, cartoon.row()), [0, len(cartoon.row())] + cartoon.row())

    def test_what_comes_of_it_is_a_cartoon(self):
        for name, cartoon in cartoons().items():
            with self.subTest(name):
                for quarters in range(1, 4):
                    self.assertEqual(judge(turned_row(quarters, cartoon.row())), [0])

    def test_what_comes_of_it_is_a_cartoon_to_the_reference(self):
        for name, cartoon in several().items():
            with self.subTest(name):
                for quarters in range(1, 4):
                    self.assertEqual(Reference(turned_row(quarters, cartoon.row())).judged(), [0])

    def test_frames_of_the_least_and_the_greatest_sides(self):
        for width, height in ((16, 16), (16, 1048575), (1048575, 16), (256, 65536), (255, 1000), (70000, 300)):
            on_edge = [(5, 0), (width, 7), (width - 3, height), (0, height - 1)]
            cartoon = drawn(width, height, frame(width, height, *on_edge) + [((5, 0), (width, 7))],
                            [(width - 1, 1, 65535, 256), (1, height - 2, 257, 65280)])
            for quarters in range(4):
                row = turned_row(quarters, cartoon.row())
                self.assertEqual(row, drawing_turned(cartoon, quarters).row())
                self.assertEqual(judge(row), [0])

    def test_glass_and_painting_above_255(self):
        kinds = [(256, 1), (1, 256), (65535, 0), (0, 65535), (258, 772), (65280, 255), (513, 513)]
        for kind in kinds:
            marks = [(15, 2) + kind, (2, 10, 3, 4), (20, 15) + kind[::-1]]
            row = the_run().changed(marks=marks).row()
            found = [Drawn(20, 30, [], [], [mark]).row()[20:] for mark in
                     ((10, 2, 3, 4), (18, 15) + kind, (5, 20) + kind[::-1])]
            self.assertEqual(turned_row(1, row)[88:], found[0] + found[1] + found[2])
            for quarters in range(4):
                self.assertEqual(turned_row((4 - quarters) % 4, turned_row(quarters, row)), row)

    def test_marks_of_one_height_or_one_above_the_other(self):
        # Of one y x tells the order: of marks one above the other so as soon as they are turned.
        cartoon = grid(4, 3, 8, False)
        glass = [[mark[2:] for mark in drawing_turned(cartoon, quarters).marks] for quarters in range(4)]
        self.assertEqual(glass[0], [(0, 0), (1, 0), (2, 0), (0, 1), (1, 1), (2, 1)])
        self.assertEqual(glass[1], [(0, 1), (0, 0), (1, 1), (1, 0), (2, 1), (2, 0)])
        for quarters in range(4):
            self.assertEqual(turned_row(quarters, cartoon.row()), drawing_turned(cartoon, quarters).row())


class OneBehindTheOther(unittest.TestCase):
    def test_quarters_that_come_to_four(self):
        for name, cartoon in several().items():
            row = cartoon.row()
            for order in ((1, 3), (2, 2), (3, 1), (1, 1, 1, 1), (1, 2, 1), (2, 1, 1), (1, 1, 2)):
                now = row
                for quarters in order:
                    now = turned_row(quarters, now)
                with self.subTest((name, order)):
                    self.assertEqual(now, row)

    def test_large_ones(self):
        for cartoon in (nested(200), grid(20, 10, 7, True)):
            row = cartoon.row()
            self.assertEqual(turned_row(3, turned_row(1, row)), row)
            self.assertEqual(turned_row(2, turned_row(2, row)), row)

    def test_quarters_add_up(self):
        for name, cartoon in several().items():
            row = cartoon.row()
            for first in range(4):
                for second in range(4):
                    with self.subTest((name, first, second)):
                        both = turned_row(second, turned_row(first, row))
                        self.assertEqual(both, turned_row((first + second) % 4, row))

    def test_it_is_another_one_in_between(self):
        row = the_run().row()
        self.assertEqual(len({tuple(turned_row(quarters, row)) for quarters in range(4)}), 4)
        # A square with the mark in its middle is the same from all sides.
        row = one_pane().row()
        self.assertEqual(len({tuple(turned_row(quarters, row)) for quarters in range(4)}), 1)


class Panes(unittest.TestCase):
    def test_a_pane_goes_with_its_mark(self):
        for cartoon in (the_run(), comb(), spiral(), ring(), bent(), straight_on(), fan(), greatest_frame()):
            for quarters in range(1, 4):
                drawing = drawing_turned(cartoon, quarters)
                self.assertEqual(turned_row(quarters, cartoon.row()), drawing.row())
                assert_panes_go_along(self, cartoon, drawing, functools.partial(spot_turned, cartoon, quarters))

    def test_what_a_pane_holds_goes_with_it(self):
        cartoon = comb()
        row = cartoon.row()
        for quarters in range(1, 4):
            new = turned_row(quarters, row)
            marks = drawing_turned(cartoon, quarters).marks
            for x in range(0, 61, 4):
                for y in range(0, 51, 3):
                    expected = at(x, y, row)
                    if expected != [-2]:
                        spot = spot_turned(cartoon, quarters, *cartoon.marks[expected[1]][:2])
                        expected = [0, marks.index(spot + (0, 0))]
                    self.assertEqual(at(*spot_turned(cartoon, quarters, x, y), new), expected)


class Refused(unittest.TestCase):
    def test_quarters_above_3(self):
        for quarters in (4, 5, 7, 8, 255, 256, 2 ** 16, 2 ** 32, 2 ** 32 + 1, 2 ** 63, GREATEST):
            self.assertEqual(turn(quarters, the_run().row()), [-1])
            self.assertEqual(turn(quarters, one_pane().row()), [-1])

    def test_quarters_above_3_are_looked_at_first(self):
        for row, refusal in REFUSED:
            for quarters in (4, GREATEST):
                self.assertEqual(turn(quarters, row), [-1])

    def test_bytes_that_are_no_cartoon(self):
        for row, refusal in REFUSED:
            for quarters in range(4):
                self.assertEqual(turn(quarters, row), refusal)

    def test_the_largest_rows(self):
        row = nested(200).row()
        self.assertEqual(turn(3, row + [0] * (60000 - len(row))), [-5, 3, 20])
        row = crowded().row()
        self.assertEqual(turn(1, row), judge(row))


class Kinds(unittest.TestCase):
    def test_answers(self):
        assert_kinds(self, lambda row: [turn(quarters, row) for quarters in (0, 1, 4)])

    def test_the_answer_is_a_row_of_its_own(self):
        row = the_run().row()
        answer = turn(0, row)
        answer[2] = 0
        self.assertEqual(row[0], 0x47)
        self.assertEqual(turn(0, row)[2], 0x47)

    def test_bytes(self):
        for cartoon in (greatest_frame(), nested(200)):
            for quarters in range(4):
                self.assertTrue(all(0 <= number <= 255 for number in turn(quarters, cartoon.row())[2:]))


if __name__ == "__main__":
    unittest.main()
