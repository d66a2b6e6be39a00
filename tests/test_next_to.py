"""The call next_to: the panes that have a line in common with a pane."""

import unittest

from glasscartoons.plans import judge, next_to
from tests.helper import (GREATEST, REFUSED, all_answers, assert_kinds, bent, cartoons, comb, crowded, drawn, fan,
                          frame, great_fan, greatest_frame, grid, long_edge, long_way, nested, one_pane, path, ring,
                          spiral, spread, straight_on, the_run)
from tests.test_reference import Reference, cartoons_by_chance


def neighbours(cartoon):
    """For each pane the others that are across some line of it, as the reference finds them."""
    reference = Reference(cartoon.row())
    found = [set() for mark in cartoon.marks]
    for first, second in cartoon.lines:
        left, right = reference.left_of(first, second), reference.left_of(second, first)
        if left >= 0 and right >= 0:
            found[left].add(right)
            found[right].add(left)
    return [sorted(others) for others in found]


class NextCase(unittest.TestCase):
    def assertNext(self, cartoon, rows):
        """That these are the rows that are told, pane by pane."""
        self.assertEqual(len(rows), len(cartoon.marks))
        expected = [[0, len(others)] + others for others in rows]
        self.assertEqual(all_answers(next_to, range(len(rows)), cartoon), expected)


class Panes(NextCase):
    def test_the_run(self):
        self.assertNext(the_run(), [[1, 2], [0, 2], [0, 1]])

    def test_one_pane_alone(self):
        for cartoon in (one_pane(), straight_on(), long_edge()):
            self.assertNext(cartoon, [[]])
            self.assertEqual(next_to(0, cartoon.row()), [0, 0])

    def test_two_panes(self):
        self.assertNext(greatest_frame(), [[1], [0]])

    def test_one_neighbour_and_several(self):
        # Three panes beside one another: only the middle one has two neighbours.
        pairs = frame(30, 16, (10, 0), (10, 16), (20, 0), (20, 16)) + [((10, 0), (10, 16)), ((20, 0), (20, 16))]
        self.assertNext(drawn(30, 16, pairs, [(5, 8), (15, 8), (25, 8)]), [[1], [0, 2], [1]])
        # The marks' heights tell the numbers: here the middle one is the last.
        self.assertNext(drawn(30, 16, pairs, [(5, 8), (15, 9), (25, 7)]), [[2], [2], [0, 1]])

    def test_two_lines_in_common_are_told_once(self):
        self.assertNext(bent(), [[1, 2], [0, 2], [0, 1]])
        self.assertNext(ring(), [[1, 2], [0, 2], [0, 1]])

    def test_many_lines_in_common_are_told_once(self):
        for cartoon in (comb(), spiral(), long_way()):
            self.assertNext(cartoon, [[1], [0]])

    def test_two_lines_in_common_that_lie_apart(self):
        # The third pane has lines of the first's upper edge on both sides of the second.
        pairs = frame(40, 40, (0, 20), (40, 20)) + path((0, 20), (10, 20), (15, 20), (25, 20), (30, 20), (40, 20))
        pairs += path((10, 20), (10, 30), (30, 30), (30, 20)) + path((15, 20), (15, 25), (25, 25), (25, 20))
        self.assertNext(drawn(40, 40, pairs, [(20, 10), (20, 22), (20, 28), (20, 35)]),
                        [[1, 2, 3], [0, 2], [0, 1, 3], [0, 2]])

    def test_a_point_in_common_is_not_enough(self):
        cells = grid(3, 3, 10, False)
        self.assertNext(cells, [[1, 2], [0, 3], [0, 3], [1, 2]])
        pairs = frame(40, 40) + path((0, 0), (20, 20), (40, 40)) + path((40, 0), (20, 20), (0, 40))
        self.assertNext(drawn(40, 40, pairs, [(20, 1), (1, 20), (39, 20), (20, 39)]), [[1, 2], [0, 3], [0, 3], [1, 2]])

    def test_a_point_of_the_frames_edge_in_common(self):
        # The first and the last pane meet in the point (20, 0) alone.
        pairs = frame(40, 20, (20, 0)) + [((20, 0), (0, 20)), ((20, 0), (40, 20))]
        self.assertNext(drawn(40, 20, pairs, [(1, 1), (39, 1), (20, 19)]), [[2], [2], [0, 1]])

    def test_rising(self):
        # The pane within the ring of others has all of them as neighbours, of numbers below and above its own.
        pairs = frame(60, 60) + path((20, 20), (40, 20), (40, 40), (20, 40), (20, 20))
        pairs += [((0, 0), (20, 20)), ((60, 0), (40, 20)), ((60, 60), (40, 40)), ((0, 60), (20, 40))]
        self.assertNext(drawn(60, 60, pairs, [(30, 1), (1, 30), (30, 30), (59, 30), (30, 59)]),
                        [[1, 2, 3], [0, 2, 4], [0, 1, 3, 4], [0, 2, 4], [1, 2, 3]])

    def test_about_a_point(self):
        cartoon = fan()
        for others in all_answers(next_to, range(len(cartoon.marks)), cartoon):
            self.assertEqual(others[:2], [0, 2])

    def test_as_many_neighbours_as_may_be(self):
        # One pane below has a line in common with each of 99 others, and none of these with more than two of them.
        across = [(10 * k, 10) for k in range(99)] + [(990, 10)]
        uprights = [((10 * k, 10), (10 * k, 20)) for k in range(1, 99)]
        on_edge = [(0, 10), (990, 10)] + [(10 * k, 20) for k in range(1, 99)]
        marks = [(5, 5)] + [(10 * k + 5, 15) for k in range(99)]
        cartoon = drawn(990, 20, frame(990, 20, *on_edge) + path(*across) + uprights, marks)
        self.assertEqual(next_to(0, cartoon.row()), [0, 99] + list(range(1, 100)))
        self.assertEqual(next_to(1, cartoon.row()), [0, 2, 0, 2])
        self.assertEqual(next_to(50, cartoon.row()), [0, 3, 0, 49, 51])
        self.assertEqual(next_to(99, cartoon.row()), [0, 2, 0, 98])


class EveryCartoon(NextCase):
    def test_the_stock(self):
        for name, cartoon in cartoons().items():
            if len(cartoon.points) < 50:
                with self.subTest(name):
                    self.assertNext(cartoon, neighbours(cartoon))

    def test_by_chance(self):
        for number, cartoon in enumerate(cartoons_by_chance()):
            with self.subTest(number):
                self.assertNext(cartoon, neighbours(cartoon))

    def test_large_ones(self):
        cartoon = great_fan()
        numbers = spread(197)
        # Each of the slices has the ones beside it as neighbours; the last pane only the slice at the frame's edge.
        expected = [[0, 2, i - 1, i + 1] if i else [0, 1, 1] for i in numbers]
        self.assertEqual(all_answers(next_to, numbers, cartoon), expected)
        self.assertEqual(next_to(197, cartoon.row()), [0, 1, 196])

    def test_triangles(self):
        cartoon = nested(200)
        for others in all_answers(next_to, spread(len(cartoon.marks)), cartoon):
            self.assertIn(others[1], (2, 3))


class Refused(unittest.TestCase):
    def test_no_such_pane(self):
        for name, cartoon in cartoons().items():
            many = len(cartoon.marks)
            with self.subTest(name):
                self.assertEqual(next_to(many - 1, cartoon.row())[0], 0)
                for i in (many, GREATEST):
                    self.assertEqual(next_to(i, cartoon.row()), [-2])

    def test_numbers_that_would_fit_with_fewer_bytes(self):
        for i in (2 ** 8, 2 ** 16, 2 ** 16 + 1, 2 ** 32, 2 ** 32 + 1, 2 ** 63, 2 ** 64 - 3):
            self.assertEqual(next_to(i, the_run().row()), [-2])

    def test_bytes_that_are_no_cartoon(self):
        for row, refusal in REFUSED:
            for i in (0, 2, 3, GREATEST):
                self.assertEqual(next_to(i, row), refusal)

    def test_the_largest_rows(self):
        row = nested(200).row()
        self.assertEqual(next_to(0, row + [0] * (60000 - len(row))), [-5, 3, 20])
        row = crowded().row()
        self.assertEqual(next_to(GREATEST, row), judge(row))


class Kinds(unittest.TestCase):
    def test_answers(self):
        assert_kinds(self, lambda row: [next_to(i, row) for i in (0, 1, GREATEST)])


if __name__ == "__main__":
    unittest.main()
