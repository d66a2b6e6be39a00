"""Turns, and points on lines, as the document tells them."""

import itertools
import unittest

from glasscartoons.plane import comes_behind, is_on, turn_of

SPOTS = list(itertools.product(range(4), range(4)))


class Turns(unittest.TestCase):
    def test_left_right_straight(self):
        self.assertEqual(turn_of((0, 0), (30, 0), (10, 10)), 300)
        self.assertEqual(turn_of((0, 0), (10, 10), (30, 0)), -300)
        self.assertEqual(turn_of((0, 0), (10, 10), (30, 30)), 0)
        self.assertEqual(turn_of((0, 0), (10, 10), (5, 5)), 0)

    def test_by_its_words(self):
        for p, q, r in itertools.product(SPOTS, repeat=3):
            told = (q[0] - p[0]) * (r[1] - q[1]) - (q[1] - p[1]) * (r[0] - q[0])
            self.assertEqual(turn_of(p, q, r), told)


class OnALine(unittest.TestCase):
    def test_the_ends_are_on_it(self):
        for p, q in itertools.product(SPOTS, repeat=2):
            self.assertTrue(is_on(p, q, p) and is_on(p, q, q))

    def test_on_every_line(self):
        for p, q, r in itertools.product(SPOTS, repeat=3):
            within = all(min(p[axis], q[axis]) <= r[axis] <= max(p[axis], q[axis]) for axis in (0, 1))
            self.assertEqual(is_on(p, q, r), within and turn_of(p, q, r) == 0)

    def test_in_a_row_but_beyond(self):
        for p, q, r in (((1, 1), (2, 2), (3, 3)), ((1, 1), (2, 2), (0, 0)), ((2, 0), (2, 1), (2, 2)),
                        ((0, 2), (1, 2), (2, 2))):
            self.assertFalse(is_on(p, q, r))
            self.assertFalse(is_on(q, p, r))


class Order(unittest.TestCase):
    def test_by_y_then_by_x(self):
        row = sorted(SPOTS, key=lambda spot: (spot[1], spot[0]))
        for one, two in itertools.product(range(len(row)), repeat=2):
            self.assertEqual(comes_behind(row[one], row[two]), one > two)


if __name__ == "__main__":
    unittest.main()
