"""The call sides: the panes to the left and to the right of a line."""

import unittest

from glasscartoons.plans import judge, pane, sides
from tests.helper import (GREATEST, REFUSED, all_answers, assert_kinds, bent, cartoons, comb, crowded, drawn, frame,
                          greatest_frame, grid, nested, one_pane, path, ring, spread, straight_on, the_run)
from tests.test_reference import Reference, cartoons_by_chance, on_frame


def side_faults(cartoon, numbers, answers, panes):
    """What is wrong with the sides of the lines of these numbers; panes are the answers of pane, by their numbers."""
    faults = []
    for number, answer in zip(numbers, answers):
        first, second = cartoon.lines[number]
        if len(answer) != 3 or answer[0] != 0:
            faults.append("line %d: not two numbers behind the 0: %r" % (number, answer))
            continue
        left, right = answer[1:]
        on_edge = on_frame(cartoon, (first, second))
        if left == right or sorted(answer[1:])[on_edge] < 0 or (min(left, right) == -1) != on_edge:
            faults.append("line %d: not two panes, or one and the outside: %r" % (number, answer))
        for i, step in ((left, (first, second)), (right, (second, first))):
            if i >= 0:
                outline = panes[i][2:]
                if step not in zip(outline, outline[1:] + outline[:1]):
                    faults.append("line %d: not in this order in pane %d" % (number, i))
    return faults


class SideCase(unittest.TestCase):
    def assertSides(self, cartoon, p, q, left, right):
        """The sides of the line between two points, of which the first has the lower number."""
        line = (cartoon.points.index(p), cartoon.points.index(q))
        self.assertEqual(sides(cartoon.lines.index(line), cartoon.row()), [0, left, right], (p, q))


class TheRun(unittest.TestCase):
    def test_every_line(self):
        row = the_run().row()
        self.assertEqual([sides(k, row) for k in range(7)], [
            [0, 0, -1], [0, 1, 0], [0, -1, 1], [0, 0, 2], [0, 2, -1], [0, 1, 2], [0, -1, 2]])


class Lines(SideCase):
    def test_on_the_frames_four_edges(self):
        for cartoon in (one_pane(), straight_on()):
            for number, (first, second) in enumerate(cartoon.lines):
                p, q = cartoon.points[first], cartoon.points[second]
                # The pane is to the left of a line below or at the right, to the right of the others.
                to_the_left = p[1] == q[1] == 0 or p[0] == q[0] == cartoon.width
                self.assertEqual(sides(number, cartoon.row()), [0, 0, -1] if to_the_left else [0, -1, 0], (p, q))

    def test_on_the_edges_of_several_panes(self):
        cartoon = grid(3, 3, 10, False)
        for p, q, left, right in (((0, 0), (10, 0), 0, -1), ((10, 0), (20, 0), 1, -1), ((20, 0), (20, 10), 1, -1),
                                  ((20, 10), (20, 20), 3, -1), ((0, 20), (10, 20), -1, 2), ((10, 20), (20, 20), -1, 3),
                                  ((0, 0), (0, 10), -1, 0), ((0, 10), (0, 20), -1, 2)):
            self.assertSides(cartoon, p, q, left, right)

    def test_upright_and_level_ones_within_the_frame(self):
        cartoon = grid(3, 3, 10, False)
        for p, q, left, right in (((10, 0), (10, 10), 0, 1), ((10, 10), (10, 20), 2, 3),
                                  ((0, 10), (10, 10), 2, 0), ((10, 10), (20, 10), 3, 1)):
            self.assertSides(cartoon, p, q, left, right)

    def test_slanting_ones(self):
        pairs = frame(40, 40) + path((0, 0), (20, 20), (40, 40)) + path((40, 0), (20, 20), (0, 40))
        cartoon = drawn(40, 40, pairs, [(20, 1), (1, 20), (39, 20), (20, 39)])
        for p, q, left, right in (((0, 0), (20, 20), 1, 0), ((40, 0), (20, 20), 0, 2),
                                  ((20, 20), (0, 40), 1, 3), ((20, 20), (40, 40), 3, 2)):
            self.assertSides(cartoon, p, q, left, right)

    def test_of_panes_that_are_not_convex(self):
        # Of the teeth's lines those that go up have the one pane now to the left, now to the right.
        for p, q, left, right in (((10, 10), (10, 40), 1, 0), ((20, 10), (20, 40), 0, 1), ((30, 10), (30, 40), 1, 0),
                                  ((40, 10), (40, 40), 0, 1), ((10, 40), (20, 40), 1, 0), ((20, 10), (30, 10), 1, 0),
                                  ((0, 10), (10, 10), 1, 0), ((0, 0), (60, 0), 0, -1), ((0, 50), (60, 50), -1, 1),
                                  ((0, 0), (0, 10), -1, 0), ((0, 10), (0, 50), -1, 1), ((60, 0), (60, 10), 0, -1)):
            self.assertSides(comb(), p, q, left, right)

    def test_between_points_on_edges_but_within(self):
        # The ends of these lines are on the frame's edge, they themselves are not.
        self.assertSides(greatest_frame(), (0, 0), (1048575, 1048575), 1, 0)
        cartoon = drawn(20, 20, frame(20, 20, (10, 0), (10, 20)) + [((10, 0), (10, 20))], [(5, 10), (15, 10)])
        self.assertSides(cartoon, (10, 0), (10, 20), 0, 1)

    def test_between_an_inner_pane_and_those_about_it(self):
        for p, q, left, right in (((10, 10), (30, 10), 2, 0), ((30, 10), (30, 30), 2, 0), ((10, 10), (10, 30), 1, 2),
                                  ((10, 30), (30, 30), 1, 2), ((0, 0), (5, 5), 1, 0), ((5, 5), (10, 10), 1, 0)):
            self.assertSides(ring(), p, q, left, right)

    def test_along_which_an_outline_goes_straight_on(self):
        for p, q, left, right in (((8, 0), (8, 4), 1, 0), ((8, 4), (8, 8), 1, 0), ((8, 8), (12, 8), 1, 0),
                                  ((12, 8), (16, 8), 2, 0), ((12, 8), (12, 16), 1, 2), ((12, 16), (12, 24), 1, 2)):
            self.assertSides(bent(), p, q, left, right)


class EveryCartoon(SideCase):
    def test_the_stock(self):
        for name, cartoon in cartoons().items():
            with self.subTest(name):
                numbers = spread(len(cartoon.lines))
                answers = all_answers(sides, numbers, cartoon)
                told = sorted({i for answer in answers for i in answer[1:] if i >= 0})
                panes = dict(zip(told, all_answers(pane, told, cartoon)))
                self.assertEqual(side_faults(cartoon, numbers, answers, panes), [])

    def test_by_chance(self):
        for number, cartoon in enumerate(cartoons_by_chance()):
            row = cartoon.row()
            reference = Reference(row)
            numbers = range(len(cartoon.lines))
            answers = all_answers(sides, numbers, cartoon)
            panes = all_answers(pane, range(len(cartoon.marks)), cartoon)
            with self.subTest(number):
                self.assertEqual(side_faults(cartoon, numbers, answers, panes), [])
                for (first, second), answer in zip(cartoon.lines, answers):
                    self.assertEqual(answer, [0, reference.left_of(first, second), reference.left_of(second, first)])

    def test_each_step_of_an_outline_is_told_once(self):
        for cartoon in cartoons().values():
            if len(cartoon.points) < 50:
                answers = all_answers(sides, range(len(cartoon.lines)), cartoon)
                told = [i for answer in answers for i in answer[1:]]
                for i in range(len(cartoon.marks)):
                    self.assertEqual(told.count(i), pane(i, cartoon.row())[1])


class Refused(unittest.TestCase):
    def test_no_such_line(self):
        for name, cartoon in cartoons().items():
            many = len(cartoon.lines)
            with self.subTest(name):
                self.assertEqual(sides(many - 1, cartoon.row())[0], 0)
                for line in (many, many + 1, GREATEST):
                    self.assertEqual(sides(line, cartoon.row()), [-2])

    def test_numbers_that_would_fit_with_fewer_bytes(self):
        for line in (2 ** 8, 2 ** 16, 2 ** 16 + 1, 2 ** 32, 2 ** 32 + 1, 2 ** 63, 2 ** 64 - 7):
            self.assertEqual(sides(line, the_run().row()), [-2])

    def test_bytes_that_are_no_cartoon(self):
        for row, refusal in REFUSED:
            for line in (0, 6, 7, 8, GREATEST):
                self.assertEqual(sides(line, row), refusal)

    def test_the_largest_rows(self):
        row = nested(200).row()
        self.assertEqual(sides(0, row + [0] * (60000 - len(row))), [-5, 3, 20])
        row = crowded().row()
        self.assertEqual(sides(8192, row), judge(row))


class Kinds(unittest.TestCase):
    def test_answers(self):
        assert_kinds(self, lambda row: [sides(line, row) for line in (0, 3, GREATEST)])


if __name__ == "__main__":
    unittest.main()
