"""The call join: one cartoon to the right of another."""

import unittest

from glasscartoons.drawings import Drawing
from glasscartoons.plans import area, count, join, judge, pane
from glasscartoons.rules import is_too_great
from tests.helper import (REFUSED, Drawn, Watched, assert_kinds, bent, broken_rows, comb, crowded, drawn, frame, grid,
                          long_edge, long_way, magnified, nested, one_pane, path, ring, row_behind, side_by_side,
                          spiral, straight_on, the_run)
from tests.test_reference import Reference, cartoons_by_chance

MOST = 1048575


def joined_row(first, second):
    """The bytes of what comes of it."""
    return row_behind(join(first, second))


def plain(width, height, left=(), right=(), glass=0):
    """A cartoon of one pane with points at these heights of its left and its right edge."""
    on_edge = [(0, y) for y in left] + [(width, y) for y in right]
    return drawn(width, height, frame(width, height, *on_edge), [(1, 1, glass)])


def shelves(width, height, left, right):
    """A cartoon with lines from points of the left edge to points of the right one, one above the other."""
    ends = [((0, y), (width, z)) for y, z in zip(left, right)]
    on_edge = [point for pair in ends for point in pair]
    marks = [(1, y - 1, 300 + y, 7) for y in left] + [(1, height - 1, 1, 2)]
    return drawn(width, height, frame(width, height, *on_edge) + ends, marks)


def bunches():
    """Rows of cartoons that are as high as one another."""
    by_height = {}
    for cartoon in cartoons_by_chance():
        by_height.setdefault(cartoon.height, []).append(cartoon)
    rows = [row[:7] for height, row in sorted(by_height.items())]
    rows.append([one_pane(), straight_on(), plain(17, 16, [3, 8], [8, 15])])
    rows.append([ring(), magnified(2, the_run()), shelves(20, 40, [10, 20, 30], [5, 20, 39])])
    rows.append([magnified(2, comb()), spiral(), magnified(5, the_run())])
    rows.append([bent(), plain(16, 24, [8, 16], [23])])
    return rows


def neighbours_in_bunches():
    """Pairs of cartoons, each with the next of its bunch and with itself."""
    pairs = []
    for bunch in bunches():
        pairs += [(first, second) for first, second in zip(bunch, bunch[1:] + bunch[:1])]
        pairs.append((bunch[0], bunch[0]))
    return pairs


class Joined(unittest.TestCase):
    def assertJoined(self, first, second, expected):
        for cartoon in (first, second, expected):
            self.assertEqual(judge(cartoon.row()), [0])
        self.assertEqual(join(first.row(), second.row()), [0, len(expected.row())] + expected.row())

    def test_the_run_with_itself(self):
        row = the_run().row()
        self.assertEqual(join(row, row), [
            0, 208, 0x47, 0x4C, 0x41, 0x31, 60, 0, 0, 0, 20, 0, 0, 0, 8, 0, 13, 0, 6, 0, 0, 0,
            0, 0, 0, 0, 0, 0, 0, 0, 30, 0, 0, 0, 0, 0, 0, 0, 60, 0, 0, 0, 0, 0, 0, 0,
            10, 0, 0, 0, 10, 0, 0, 0, 40, 0, 0, 0, 10, 0, 0, 0,
            0, 0, 0, 0, 20, 0, 0, 0, 30, 0, 0, 0, 20, 0, 0, 0, 60, 0, 0, 0, 20, 0, 0, 0,
            0, 0, 1, 0, 0, 0, 3, 0, 0, 0, 5, 0, 1, 0, 2, 0, 1, 0, 3, 0, 1, 0, 4, 0, 1, 0, 6, 0,
            2, 0, 4, 0, 2, 0, 7, 0, 3, 0, 5, 0, 4, 0, 6, 0, 5, 0, 6, 0, 6, 0, 7, 0,
            15, 0, 0, 0, 2, 0, 0, 0, 5, 0, 0, 0, 45, 0, 0, 0, 2, 0, 0, 0, 5, 0, 0, 0,
            2, 0, 0, 0, 10, 0, 0, 0, 6, 0, 0, 0, 32, 0, 0, 0, 10, 0, 0, 0, 6, 0, 0, 0,
            20, 0, 0, 0, 15, 0, 0, 0, 7, 0, 0, 0, 50, 0, 0, 0, 15, 0, 0, 0, 7, 0, 0, 0])

    def test_corners_alone(self):
        expected = Drawn(36, 18, [(0, 0), (20, 0), (36, 0), (0, 18), (20, 18), (36, 18)],
                         [(0, 1), (0, 3), (1, 2), (1, 4), (2, 5), (3, 4), (4, 5)], [(1, 1, 4), (21, 1, 5)])
        self.assertJoined(plain(20, 18, glass=4), plain(16, 18, glass=5), expected)

    def test_the_same_points_on_both_sides(self):
        expected = Drawn(36, 18, [(0, 0), (20, 0), (36, 0), (20, 5), (20, 11), (0, 18), (20, 18), (36, 18)],
                         [(0, 1), (0, 5), (1, 2), (1, 3), (2, 7), (3, 4), (4, 6), (5, 6), (6, 7)], [(1, 1), (21, 1)])
        self.assertJoined(plain(20, 18, right=[5, 11]), plain(16, 18, left=[5, 11]), expected)

    def test_points_on_one_side_alone(self):
        expected = Drawn(36, 18, [(0, 0), (20, 0), (36, 0), (20, 5), (20, 11), (0, 18), (20, 18), (36, 18)],
                         [(0, 1), (0, 5), (1, 2), (1, 3), (2, 7), (3, 4), (4, 6), (5, 6), (6, 7)], [(1, 1), (21, 1)])
        self.assertJoined(plain(20, 18, right=[5, 11]), plain(16, 18), expected)
        self.assertJoined(plain(20, 18), plain(16, 18, left=[5, 11]), expected)

    def test_points_that_the_other_has_not(self):
        # At the heights 5 and 11 the first has points, at 5, 6 and 17 the second: four are left, five lines join them.
        points = [(0, 0), (20, 0), (36, 0), (20, 5), (20, 6), (20, 11), (20, 17), (0, 18), (20, 18), (36, 18)]
        lines = [(0, 1), (0, 7), (1, 2), (1, 3), (2, 9), (3, 4), (4, 5), (5, 6), (6, 8), (7, 8), (8, 9)]
        expected = Drawn(36, 18, points, lines, [(1, 1), (21, 1)])
        self.assertJoined(plain(20, 18, right=[5, 11]), plain(16, 18, left=[5, 6, 17]), expected)

    def test_points_of_the_outer_edges_stay(self):
        points = [(0, 0), (20, 0), (36, 0), (20, 2), (36, 3), (0, 4), (0, 18), (20, 18), (36, 18)]
        lines = [(0, 1), (0, 5), (1, 2), (1, 3), (2, 4), (3, 7), (4, 8), (5, 6), (6, 7), (7, 8)]
        expected = Drawn(36, 18, points, lines, [(1, 1), (21, 1)])
        self.assertJoined(plain(20, 18, left=[4], right=[2]), plain(16, 18, right=[3]), expected)

    def test_lines_that_only_end_at_the_edge_stay(self):
        # From (20, 6) a line goes to the left, from (20, 6) and from (20, 12) one to the right.
        first = drawn(20, 18, frame(20, 18, (0, 9), (20, 6)) + [((0, 9), (20, 6))], [(1, 1, 1), (1, 17, 2)])
        pairs = frame(16, 18, (0, 6), (0, 12), (16, 9)) + path((0, 6), (16, 9), (0, 12))
        second = drawn(16, 18, pairs, [(1, 1, 3), (1, 9, 4), (1, 17, 5)])
        points = [(0, 0), (20, 0), (36, 0), (20, 6), (0, 9), (36, 9), (20, 12), (0, 18), (20, 18), (36, 18)]
        lines = [(0, 1), (0, 4), (1, 2), (1, 3), (2, 5), (3, 4), (3, 5), (3, 6), (4, 7), (5, 6), (5, 9), (6, 8),
                 (7, 8), (8, 9)]
        marks = [(1, 1, 1), (21, 1, 3), (21, 9, 4), (1, 17, 2), (21, 17, 5)]
        self.assertJoined(first, second, Drawn(36, 18, points, lines, marks))

    def test_upright_lines_next_to_the_edge_stay(self):
        # They go up at x 18 and at x 22, from edge to edge.
        first = drawn(20, 18, frame(20, 18, (18, 0), (18, 18)) + [((18, 0), (18, 18))], [(5, 5, 1), (19, 5, 2)])
        second = drawn(20, 18, frame(20, 18, (2, 0), (2, 18)) + [((2, 0), (2, 18))], [(1, 5, 3), (5, 5, 4)])
        points = [(x, y) for y in (0, 18) for x in (0, 18, 20, 22, 40)]
        lines = [(0, 1), (0, 5), (1, 2), (1, 6), (2, 3), (2, 7), (3, 4), (3, 8), (4, 9), (5, 6), (6, 7), (7, 8), (8, 9)]
        self.assertJoined(first, second, Drawn(40, 18, points, lines, [(5, 5, 1), (19, 5, 2), (21, 5, 3), (25, 5, 4)]))

    def test_a_line_of_the_second_at_the_firsts_width(self):
        # In the second an upright line at x 20, which is the first's width: it isn't along the edge between them.
        second = drawn(40, 18, frame(40, 18, (20, 0), (20, 18)) + [((20, 0), (20, 18))], [(5, 5, 1), (25, 5, 2)])
        points = [(x, y) for y in (0, 18) for x in (0, 20, 40, 60)]
        lines = [(0, 1), (0, 4), (1, 2), (1, 5), (2, 3), (2, 6), (3, 7), (4, 5), (5, 6), (6, 7)]
        self.assertJoined(plain(20, 18), second, Drawn(60, 18, points, lines, [(1, 1), (25, 5, 1), (45, 5, 2)]))

    def test_marks_of_both_in_order_with_glass_and_painting(self):
        # Heights 3, 3, 9 of the first's marks and 3, 9, 10 of the second's.
        first = drawn(30, 18, frame(30, 18, (10, 0), (10, 18), (20, 0), (20, 18)) + [
            ((10, 0), (10, 18)), ((20, 0), (20, 18))], [(1, 3, 256, 1), (29, 3, 1, 256), (15, 9, 65535, 0)])
        second = drawn(30, 18, frame(30, 18, (10, 0), (10, 18), (20, 0), (20, 18)) + [
            ((10, 0), (10, 18)), ((20, 0), (20, 18))], [(15, 3, 0, 65535), (29, 9, 258, 772), (1, 10, 255, 65280)])
        row = joined_row(first.row(), second.row())
        marks = [(1, 3, 256, 1), (29, 3, 1, 256), (45, 3, 0, 65535), (15, 9, 65535, 0), (59, 9, 258, 772),
                 (31, 10, 255, 65280)]
        self.assertEqual(row[-72:], Drawn(0, 0, [], [], marks).row()[20:])
        self.assertEqual(judge(row), [0])

    def test_which_one_is_to_the_left(self):
        first, second = plain(20, 18, left=[3], glass=1), plain(16, 18, right=[4], glass=2)
        self.assertEqual(joined_row(first.row(), second.row()), side_by_side(first, second).row())
        self.assertEqual(joined_row(second.row(), first.row()), side_by_side(second, first).row())
        self.assertNotEqual(joined_row(first.row(), second.row()), joined_row(second.row(), first.row()))

    def test_the_same_list_as_first_and_as_second(self):
        for cartoon in (the_run(), comb(), bent(), straight_on(), shelves(20, 40, [10, 20], [5, 39])):
            row = cartoon.row()
            answer = join(row, row)
            self.assertEqual(answer, join(list(row), list(row)))
            self.assertEqual(row_behind(answer), side_by_side(cartoon, cartoon).row())
            self.assertEqual(row, cartoon.row())

    def test_bunches(self):
        for number, (first, second) in enumerate(neighbours_in_bunches()):
            with self.subTest(number):
                self.assertEqual(joined_row(first.row(), second.row()), side_by_side(first, second).row())

    def test_what_comes_of_it_is_a_cartoon(self):
        for number, (first, second) in enumerate(neighbours_in_bunches()):
            with self.subTest(number):
                row = joined_row(first.row(), second.row())
                self.assertEqual(judge(row), [0])
                self.assertEqual(Reference(row).judged(), [0])


class OneBehindTheOther(unittest.TestCase):
    def assertAlike(self, first, second, third):
        one, two, three = first.row(), second.row(), third.row()
        row = joined_row(joined_row(one, two), three)
        self.assertEqual(row, joined_row(one, joined_row(two, three)))
        self.assertEqual(judge(row), [0])

    def test_bunches(self):
        for number, bunch in enumerate(bunches()):
            thrice = bunch * 3
            for k in range(min(3, len(bunch))):
                with self.subTest((number, k)):
                    self.assertAlike(*thrice[k:k + 3])

    def test_edges_of_different_points(self):
        self.assertAlike(shelves(20, 40, [10, 20], [5, 39]), plain(16, 40, [5, 6], [7, 39]), ring())
        self.assertAlike(plain(16, 40), shelves(16, 40, [10, 20], [5, 39]), plain(1000, 40, [1, 39], [2]))


class Panes(unittest.TestCase):
    def assertPanes(self, first, second):
        """That the panes are both ones', by their marks: the areas, and the corners that they have already."""
        drawing = side_by_side(first, second)
        new = joined_row(first.row(), second.row())
        self.assertEqual(count(2, new), [0, len(first.marks) + len(second.marks)])
        spots = [mark[:2] for mark in drawing.marks]
        for cartoon, further in ((first, 0), (second, first.width)):
            row = cartoon.row()
            for i, (x, y, glass, painting) in enumerate(cartoon.marks):
                number = spots.index((x + further, y))
                self.assertEqual(drawing.marks[number][2:], (glass, painting))
                self.assertEqual(area(number, new), area(i, row))
                corners = {(cartoon.points[k][0] + further, cartoon.points[k][1]) for k in row_behind(pane(i, row))}
                found = {drawing.points[k] for k in row_behind(pane(number, new))}
                self.assertLessEqual(corners, found)
                self.assertEqual({x for x, y in found - corners} - {first.width}, set())
        total = sum(area(i, new)[1] for i in range(len(drawing.marks)))
        self.assertEqual(total, 2 * (first.width + second.width) * first.height)

    def test_bunches(self):
        for number, (first, second) in enumerate(neighbours_in_bunches()):
            with self.subTest(number):
                self.assertPanes(first, second)

    def test_beside_the_reference(self):
        for number, (first, second) in enumerate(neighbours_in_bunches()[::4]):
            new = joined_row(first.row(), second.row())
            reference = Reference(new)
            areas = reference.strips.panes()
            with self.subTest(number):
                for i, mark in enumerate(reference.marks):
                    self.assertEqual(area(i, new), [0, areas[reference.strips.pane_at(mark)]])


class Refused(unittest.TestCase):
    def test_heights_that_differ(self):
        for first, second in ((17, 16), (16, 17), (16, MOST), (16, 16 + 256), (65536, 16), (MOST, MOST - 1)):
            self.assertEqual(join(plain(20, first).row(), plain(20, second).row()), [-2])
        self.assertEqual(join(the_run().row(), ring().row()), [-2])
        self.assertEqual(join(ring().row(), the_run().row()), [-2])

    def test_widths_that_differ(self):
        for first, second in ((16, 17), (16, 1000), (1000, 16), (256, 65536)):
            row = joined_row(plain(first, 20).row(), plain(second, 20).row())
            self.assertEqual(row, side_by_side(plain(first, 20), plain(second, 20)).row())

    def test_widths_together(self):
        for first in (16, 17, 300, 524287, 524288, MOST - 300, MOST - 16):
            row = plain(first, 20).row()
            expected = side_by_side(plain(first, 20), plain(MOST - first, 20))
            self.assertEqual(joined_row(row, plain(MOST - first, 20).row()), expected.row())
            self.assertEqual(judge(expected.row()), [0])
            self.assertEqual(join(row, plain(MOST + 1 - first, 20).row()), [-6])
            self.assertEqual(join(row, plain(MOST, 20).row()), [-6])
            self.assertEqual(join(plain(MOST, 20).row(), row), [-6])

    def test_the_greatest_height(self):
        first, second = plain(20, MOST, right=[1, MOST - 1]), plain(30, MOST, left=[2])
        self.assertEqual(joined_row(first.row(), second.row()), side_by_side(first, second).row())

    def test_heights_that_differ_come_ahead_of_widths(self):
        self.assertEqual(join(plain(MOST, 20).row(), plain(16, 21).row()), [-2])
        self.assertEqual(join(plain(16, 21).row(), plain(MOST, 20).row()), [-2])
        self.assertEqual(join(plain(MOST, MOST).row(), plain(MOST, 16).row()), [-2])

    def test_every_rule_is_met(self):
        self.assertEqual(sorted({rule for row, rule, place in broken_rows()}), list(range(1, 14)))

    def test_the_first_no_cartoon(self):
        for row, rule, place in broken_rows():
            for other in (the_run(), plain(MOST, 18), ring()):
                self.assertEqual(join(row, other.row()), [-5, rule, place])

    def test_the_second_no_cartoon(self):
        for row, rule, place in broken_rows():
            for other in (the_run(), plain(MOST, 18), ring()):
                self.assertEqual(join(other.row(), row), [-5, rule + 16, place])

    def test_both_no_cartoon(self):
        rows = broken_rows()
        for row, rule, place in rows:
            for other in rows:
                self.assertEqual(join(row, other[0]), [-5, rule, place])
            self.assertEqual(join(row, row), [-5, rule, place])

    def test_more_than_131072_bytes(self):
        longest, too_long = [0] * 131072, [0] * 131073
        run = the_run().row()
        self.assertEqual(join(too_long, run), [-6])
        self.assertEqual(join(run, too_long), [-6])
        self.assertEqual(join(too_long, too_long), [-6])
        self.assertEqual(join(longest, run), [-5, 1, 0])
        self.assertEqual(join(run, longest), [-5, 17, 0])

    def test_more_than_131072_bytes_come_ahead_of_rules(self):
        too_long = [0] * 131073
        for row, refusal in REFUSED:
            self.assertEqual(join(too_long, row), [-6])
            self.assertEqual(join(row, too_long), [-6])
        for row, rule, place in broken_rows():
            self.assertEqual(join(row, too_long), [-6])

    def test_rows_of_60000_bytes(self):
        row = nested(200).row()
        row += [0] * (60000 - len(row))
        run = the_run().row()
        self.assertEqual(join(run, row), [-5, 19, 20])
        self.assertEqual(join(row, run), [-5, 3, 20])
        row = crowded().row()
        self.assertEqual(join(row, run), judge(row))
        self.assertEqual(join(run, row), [-5, 23, judge(row)[2]])


class Largest(unittest.TestCase):
    """As many points, lines and marks as may come of two cartoons, and more than rule 2 lets."""

    def test_200_points_each(self):
        uneven = plain(20, 200, range(2, 198, 2), range(3, 197, 2))
        for first, second in ((grid(20, 10, 7, True), grid(20, 10, 7, True)), (long_way(), long_way()),
                              (long_edge(), straight_on()), (uneven, uneven)):
            self.assertEqual(joined_row(first.row(), second.row()), side_by_side(first, second).row())

    def test_what_comes_of_it_is_a_cartoon(self):
        row = joined_row(grid(20, 10, 7, True).row(), grid(20, 10, 7, True).row())
        self.assertEqual(judge(row), [0])
        self.assertEqual([count(what, row) for what in range(3)], [[0, 390], [0, 1073], [0, 684]])

    def test_more_points_than_rule_2_lets(self):
        # One pane each, with 2049 and 2050 points; the two corners of the edge between them are both ones'.
        first = drawn(2050, 16, frame(2050, 16, *[(k, 0) for k in range(1, 2046)]), [(1, 1)])
        second = drawn(2050, 16, frame(2050, 16, *[(k, 0) for k in range(1, 2047)]), [(1, 1)])
        self.assertEqual([len(first.points), len(second.points)], [2049, 2050])
        row = joined_row(first.row(), first.row())
        self.assertEqual(row[12:14], [0, 16])
        self.assertEqual(row, side_by_side(first, first).row())
        self.assertEqual(join(first.row(), second.row()), [-6])
        self.assertEqual(join(second.row(), first.row()), [-6])

    def test_more_marks_than_rule_2_lets(self):
        # 1024 panes; in the second cartoon one of them is parted once more.
        first = grid(17, 33, 8, True)
        pairs = [(first.points[a], first.points[b]) for a, b in first.lines]
        pairs.remove(((0, 0), (8, 0)))
        pairs += path((0, 0), (4, 0), (8, 0)) + [((4, 0), (8, 8))]
        second = drawn(first.width, first.height, pairs, first.marks + [(3, 2, 0, 0)])
        self.assertEqual([len(first.marks), len(second.marks)], [1024, 1025])
        row = joined_row(first.row(), first.row())
        self.assertEqual(row[16:18], [0, 8])
        self.assertEqual(row, side_by_side(first, first).row())
        self.assertEqual(judge(second.row()), [0])
        self.assertEqual(join(first.row(), second.row()), [-6])

    def test_each_number_of_rule_2(self):
        # A cartoon with too many lines has too many points or marks too, so here no bytes are looked at.
        most = (MOST, MOST, 4096, 8192, 2048)
        for place in range(5):
            for more in range(2):
                sizes = [number + (more if k == place else 0) for k, number in enumerate(most)]
                points, lines, marks = [[(0, 0)] * number for number in sizes[2:]]
                self.assertEqual(is_too_great(Drawing(sizes[0], sizes[1], points, lines, marks)), more == 1)


class Kinds(unittest.TestCase):
    def test_answers(self):
        run = the_run().row()
        assert_kinds(self, lambda row: [join(run, row), join(row, run)])

    def test_answers_of_a_row_with_itself(self):
        assert_kinds(self, lambda row: [join(row, row)])

    def test_neither_row_is_changed(self):
        for first, second in neighbours_in_bunches()[::5]:
            one, two = first.row(), second.row()
            answer = join(one, two)
            self.assertEqual([one, two], [first.row(), second.row()])
            self.assertEqual(join(Watched(one), Watched(two)), answer)
        for row, rule, place in broken_rows():
            before, run = list(row), the_run().row()
            join(row, run)
            join(run, row)
            self.assertEqual([row, run], [before, the_run().row()])

    def test_the_answer_is_a_row_of_its_own(self):
        row = the_run().row()
        answer = join(row, row)
        answer[2] = 0
        self.assertEqual(row[0], 0x47)
        self.assertEqual(join(row, row)[2], 0x47)

    def test_bytes(self):
        row = plain(524287, 20).row()
        self.assertTrue(all(0 <= number <= 255 for number in join(row, row)[2:]))


if __name__ == "__main__":
    unittest.main()
