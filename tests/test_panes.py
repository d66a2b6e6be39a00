"""The calls pane and area: outlines, areas, what is refused first."""

import unittest

from glasscartoons.plans import area, count, judge, pane
from tests.helper import (GREATEST, REFUSED, all_answers, assert_kinds, bent, cartoons, comb, crowded, drawn, fan,
                          frame, grid, long_edge, long_way, nested, one_pane, pane_faults, ring, spiral, straight_on,
                          the_run)
from tests.test_reference import Reference, cartoons_by_chance


class PaneCase(unittest.TestCase):
    def assertPanes(self, cartoon):
        numbers = range(len(cartoon.marks))
        panes, areas = all_answers(pane, numbers, cartoon), all_answers(area, numbers, cartoon)
        self.assertEqual(pane_faults(cartoon, panes, areas), [])

    def assertOutlines(self, cartoon, outlines):
        """That the panes' corners are these points, mark by mark."""
        for i, points in enumerate(outlines):
            numbers = [cartoon.points.index(point) for point in points]
            self.assertEqual(pane(i, cartoon.row()), [0, len(numbers)] + numbers)
        self.assertEqual(len(outlines), len(cartoon.marks))


class TheRun(unittest.TestCase):
    def test_panes(self):
        row = the_run().row()
        self.assertEqual([pane(i, row) for i in range(3)], [[0, 3, 0, 1, 2], [0, 3, 0, 2, 3], [0, 4, 1, 4, 3, 2]])

    def test_areas(self):
        row = the_run().row()
        self.assertEqual([area(i, row) for i in range(3)], [[0, 300], [0, 200], [0, 700]])


class Outlines(PaneCase):
    def test_one_pane(self):
        self.assertOutlines(one_pane(), [[(0, 0), (16, 0), (16, 16), (0, 16)]])
        self.assertEqual(area(0, one_pane().row()), [0, 512])

    def test_points_on_every_edge(self):
        self.assertOutlines(straight_on(), [[(0, 0), (5, 0), (9, 0), (20, 0), (20, 7), (20, 16), (12, 16), (3, 16), (0, 16),
                                             (0, 5), (0, 4)]])
        self.assertEqual(area(0, straight_on().row()), [0, 640])

    def test_an_outline_goes_straight_on_within_the_frame(self):
        self.assertOutlines(bent(), [
            [(8, 0), (16, 0), (16, 8), (12, 8), (8, 8), (8, 4)],
            [(0, 0), (8, 0), (8, 4), (8, 8), (12, 8), (12, 16), (12, 24), (0, 24)],
            [(16, 0), (24, 0), (24, 24), (12, 24), (12, 16), (12, 8), (16, 8)],
        ])
        self.assertEqual([area(i, bent().row()) for i in range(3)], [[0, 128], [0, 512], [0, 512]])

    def test_panes_that_are_not_convex(self):
        teeth = [(10, 10), (10, 40), (20, 40), (20, 10), (30, 10), (30, 40), (40, 40), (40, 10)]
        self.assertOutlines(comb(), [[(0, 0), (60, 0), (60, 10)] + teeth[::-1] + [(0, 10)],
                                     [(0, 10)] + teeth + [(60, 10), (60, 50), (0, 50)]])
        self.assertEqual([area(i, comb().row()) for i in range(2)], [[0, 2400], [0, 3600]])

    def test_panes_that_wind_about_one_another(self):
        self.assertEqual([area(i, spiral().row()) for i in range(2)], [[0, 11400], [0, 8600]])
        self.assertEqual([pane(i, spiral().row())[1] for i in range(2)], [20, 16])

    def test_a_pane_within_others(self):
        self.assertOutlines(ring(), [
            [(0, 0), (40, 0), (40, 40), (30, 30), (30, 10), (10, 10), (5, 5)],
            [(0, 0), (5, 5), (10, 10), (10, 30), (30, 30), (40, 40), (0, 40)],
            [(10, 10), (30, 10), (30, 30), (10, 30)],
        ])

    def test_a_pane_goes_by_its_mark(self):
        # The same two panes, with marks at either end of the order.
        pairs = frame(20, 40, (0, 10), (20, 30)) + [((0, 10), (20, 30))]
        below, above = [0, 4, 0, 1, 3, 2], [0, 4, 2, 3, 5, 4]
        first = drawn(20, 40, pairs, [(10, 1), (10, 39)]).row()
        self.assertEqual([pane(0, first), pane(1, first)], [below, above])
        second = drawn(20, 40, pairs, [(19, 25), (1, 20)]).row()
        self.assertEqual([pane(0, second), pane(1, second)], [above, below])
        self.assertEqual([area(0, second), area(1, second)], [[0, 800], [0, 800]])
        of_one_y = drawn(20, 40, pairs, [(1, 20), (19, 20)]).row()
        self.assertEqual([pane(0, of_one_y), pane(1, of_one_y)], [above, below])

    def test_lines_in_every_direction_from_a_point(self):
        # About (20, 20): flat, steep and slanting ones, of which two each are in a row.
        ends = [(40, 20), (40, 30), (40, 40), (30, 40), (20, 40), (10, 40), (0, 40), (0, 30),
                (0, 20), (0, 10), (0, 0), (10, 0), (20, 0), (30, 0), (40, 0), (40, 10)]
        marks = [(38, 22), (38, 34), (34, 38), (22, 38), (18, 38), (6, 38), (2, 34), (2, 22),
                 (2, 18), (2, 6), (6, 2), (18, 2), (22, 2), (34, 2), (38, 6), (38, 18)]
        for many in range(3, 17):
            for start in (0, 1, 5, 11):
                chosen = sorted((start + k * 16 // many) % 16 for k in range(many))
                pairs = frame(40, 40, *ends) + [((20, 20), ends[k]) for k in chosen]
                cartoon = drawn(40, 40, pairs, [marks[k] for k in chosen])
                with self.subTest((many, start)):
                    self.assertEqual(judge(cartoon.row()), [0])
                    self.assertPanes(cartoon)

    def test_the_greatest_area(self):
        side = 1048575
        whole = drawn(side, side, frame(side, side), [(1, 1)])
        self.assertEqual(area(0, whole.row()), [0, 2 * side * side])

    def test_an_area_that_is_no_whole_number(self):
        # Half of 17 times 19: its double is told.
        cartoon = drawn(17, 19, frame(17, 19) + [((0, 0), (17, 19))], [(10, 1), (1, 10)])
        self.assertEqual([area(i, cartoon.row()) for i in range(2)], [[0, 323], [0, 323]])


class EveryCartoon(PaneCase):
    def test_the_stock(self):
        for name, cartoon in cartoons().items():
            with self.subTest(name):
                self.assertPanes(cartoon)

    def test_by_chance(self):
        for number, cartoon in enumerate(cartoons_by_chance()):
            row = cartoon.row()
            with self.subTest(number):
                self.assertPanes(cartoon)
                reference = Reference(row)
                self.assertEqual(reference.judged(), [0])
                areas = reference.strips.panes()
                for i, mark in enumerate(reference.marks):
                    self.assertEqual(area(i, row), [0, areas[reference.strips.pane_at(mark)]])

    def test_as_many_as_count_tells(self):
        for cartoon in (the_run(), one_pane(), fan(), grid(5, 4, 6, False)):
            row = cartoon.row()
            many = count(2, row)[1]
            self.assertEqual(many, len(cartoon.marks))
            self.assertEqual([pane(i, row)[0] for i in range(many + 1)], [0] * many + [-2])
            self.assertEqual([area(i, row)[0] for i in range(many + 1)], [0] * many + [-2])


class Refused(unittest.TestCase):
    def test_no_such_pane(self):
        for name, cartoon in cartoons().items():
            many = len(cartoon.marks)
            for call in (pane, area):
                with self.subTest((name, call)):
                    self.assertEqual(call(many - 1, cartoon.row())[0], 0)
                    self.assertEqual(call(many, cartoon.row()), [-2])
                    self.assertEqual(call(GREATEST, cartoon.row()), [-2])

    def test_bytes_that_are_no_cartoon(self):
        for row, refusal in REFUSED:
            for i in (0, 1, 2, 3, 4, 2 ** 32, GREATEST):
                self.assertEqual(pane(i, row), refusal)
                self.assertEqual(area(i, row), refusal)


class Kinds(unittest.TestCase):
    def test_answers(self):
        assert_kinds(self, lambda row: [call(i, row) for call in (pane, area) for i in (0, GREATEST)])


class Largest(unittest.TestCase):
    """Answers come for the largest rows that may be handed in, too."""

    def test_60000_bytes(self):
        row = nested(200).row()
        row += [0] * (60000 - len(row))
        for call in (pane, area):
            self.assertEqual(call(0, row), [-5, 3, 20])
            self.assertEqual(call(GREATEST, [255] * 60000), [-5, 1, 0])

    def test_8192_lines_and_2048_marks(self):
        row = crowded().row()
        for call in (pane, area):
            self.assertEqual(call(0, row), judge(row))
            self.assertEqual(call(GREATEST, row)[:2], [-5, 7])

    def test_outlines_of_200_corners(self):
        self.assertEqual(pane(0, long_edge().row()), [0, 200] + list(range(198)) + [199, 198])
        self.assertEqual([pane(i, long_way().row())[1] for i in range(2)], [198, 198])


if __name__ == "__main__":
    unittest.main()
