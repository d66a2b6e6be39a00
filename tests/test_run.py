"""The document's own run."""

import unittest

from glasscartoons.plans import at, count, judge, next_to, sides, turn
from tests.helper import Drawn, the_run


class TheRun(unittest.TestCase):
    def setUp(self):
        self.run_drawn = the_run()
        self.row = self.run_drawn.row()

    def test_bytes(self):
        self.assertEqual(len(self.row), 124)
        self.assertEqual(self.row[:20], [0x47, 0x4C, 0x41, 0x31, 30, 0, 0, 0, 20, 0, 0, 0, 5, 0, 7, 0, 3, 0, 0, 0])

    def test_is_taken(self):
        self.assertEqual(judge(self.row), [0])

    def test_count(self):
        self.assertEqual([count(what, self.row) for what in range(3)], [[0, 5], [0, 7], [0, 3]])

    def test_at(self):
        self.assertEqual(at(10, 10, self.row), [-2])
        self.assertEqual(at(10, 9, self.row), [0, 0])
        self.assertEqual(at(9, 10, self.row), [0, 1])
        self.assertEqual(at(11, 11, self.row), [0, 2])

    def test_sides(self):
        self.assertEqual(sides(1, self.row), [0, 1, 0])
        self.assertEqual(sides(0, self.row), [0, 0, -1])
        self.assertEqual(sides(2, self.row), [0, -1, 1])

    def test_next_to(self):
        self.assertEqual(next_to(1, self.row), [0, 2, 0, 2])

    def test_turned_by_one(self):
        points = [(0, 0), (20, 0), (10, 10), (0, 30), (20, 30)]
        lines = [(0, 1), (0, 2), (0, 3), (1, 2), (1, 4), (2, 4), (3, 4)]
        # The mark (15, 2) is at (18, 15) now: behind (10, 2), ahead of (5, 20).
        expected = Drawn(20, 30, points, lines, [(10, 2, 6), (18, 15, 5), (5, 20, 7)])
        self.assertEqual(turn(1, self.row), [0, 124] + expected.row())

    def test_without_a_line(self):
        lines = [line for line in self.run_drawn.lines if line != (2, 3)]
        changed = self.run_drawn.changed(lines=lines)
        self.assertEqual(changed.mark_place(20, 15), 108)
        self.assertEqual(judge(changed.row()), [-5, 12, 108])

    def test_with_a_line_through_a_mark(self):
        changed = self.run_drawn.changed(lines=sorted(self.run_drawn.lines + [(2, 4)]))
        self.assertEqual(judge(changed.row()), [-5, 11, 116])

    def test_with_a_pane_without_a_mark(self):
        marks = [(15, 2, 5), (2, 10, 6), (20, 16, 7)]
        changed = self.run_drawn.changed(lines=sorted(self.run_drawn.lines + [(2, 4)]), marks=marks)
        self.assertEqual(judge(changed.row()), [-5, 13, 128])
        whole = changed.changed(marks=[(15, 2), (2, 10), (25, 10), (20, 16)])
        self.assertEqual(count(2, whole.row()), [0, 4])


if __name__ == "__main__":
    unittest.main()
