"""The rules 1 to 13, one by one: which one is broken first, and at which place."""

import unittest

from glasscartoons.plans import area, judge, pane
from tests.helper import (Drawn, bent, cartoons, comb, drawn, edited, fan, frame, grid, low_first, one_pane,
                          pane_faults, path, ring, spiral, straight_on, the_run)


class RuleCase(unittest.TestCase):
    def assertTaken(self, cartoon):
        row = cartoon.row()
        self.assertEqual(judge(row), [0])
        many = len(cartoon.marks)
        panes, areas = [pane(i, row) for i in range(many)], [area(i, row) for i in range(many)]
        self.assertEqual(pane_faults(cartoon, panes, areas), [])

    def assertBroken(self, row, rule, place):
        self.assertEqual(judge(row), [-5, rule, place])


class Rule1(RuleCase):
    def test_fewer_than_20_bytes(self):
        row = the_run().row()
        for many in range(20):
            self.assertBroken(row[:many], 1, many)
            self.assertBroken([255] * many, 1, many)

    def test_20_bytes(self):
        self.assertBroken([0] * 20, 1, 0)
        self.assertBroken(the_run().row()[:20], 3, 20)

    def test_each_letter(self):
        row = the_run().row()
        for place in range(4):
            for letter in (0, row[place] - 1, row[place] + 1, row[place] ^ 32, 255):
                self.assertBroken(edited(row, place, letter), 1, 0)
        self.assertBroken(edited(row, 0, *row[3::-1]), 1, 0)


class Rule2(RuleCase):
    def test_width_and_height(self):
        row = the_run().row()
        for place in (4, 8):
            for number in (0, 1, 15, 1048576, 2 ** 20 + 30, 2 ** 24, 2 ** 24 + 30, 2 ** 31 + 30, 2 ** 32 - 1):
                self.assertBroken(edited(row, place, *low_first(number, 4)), 2, place)

    def test_width_and_height_at_their_ends(self):
        for width, height in ((16, 16), (16, 1048575), (1048575, 16), (1048575, 1048575)):
            self.assertTaken(drawn(width, height, frame(width, height), [(1, 1)]))

    def test_all_bytes_of_width_and_height_count(self):
        for width, height in ((256, 16), (16, 256), (65536, 17), (17, 65536)):
            self.assertTaken(drawn(width, height, frame(width, height), [(1, 1)]))

    def test_how_many_points_lines_marks(self):
        row = the_run().row()
        for place, numbers in ((12, (0, 3)), (14, (0, 3, 8193, 65535)), (16, (0, 2049, 65535))):
            for number in numbers:
                self.assertBroken(edited(row, place, *low_first(number, 2)), 2, place)

    def test_more_points_than_4096(self):
        row = the_run().row()
        self.assertBroken(edited(row, 12, *low_first(4097, 2)), 2, 12)
        self.assertBroken(edited(row, 12, *low_first(4096, 2)), 3, 20)

    def test_how_many_at_their_ends(self):
        row = the_run().row()
        for place, numbers in ((12, (4, 200)), (14, (4, 8192)), (16, (1, 2048))):
            for number in numbers:
                self.assertBroken(edited(row, place, *low_first(number, 2)), 3, 20)

    def test_bytes_18_and_19(self):
        row = the_run().row()
        for number in (1, 255, 256, 65280, 65535):
            self.assertBroken(edited(row, 18, *low_first(number, 2)), 2, 18)

    def test_the_least_place(self):
        row = edited(the_run().row(), 18, 1)
        for place, size in ((16, 2), (14, 2), (12, 2), (8, 4), (4, 4)):
            row = edited(row, place, *low_first(0, size))
            self.assertBroken(row, 2, place)

    def test_rule_1_comes_first(self):
        self.assertBroken(edited(the_run().row(), 3, 0, 0), 1, 0)


class Rule3(RuleCase):
    def test_one_byte_too_few_and_too_many(self):
        for name, cartoon in cartoons().items():
            with self.subTest(name):
                row = cartoon.row()
                self.assertBroken(row[:-1], 3, 20)
                self.assertBroken(row + [0], 3, 20)

    def test_other_numbers_of_bytes(self):
        row = the_run().row()
        for many in range(20, 124):
            self.assertBroken(row[:many], 3, 20)
        self.assertBroken(row + row, 3, 20)

    def test_what_each_thing_counts(self):
        row = the_run().row()
        for place, size in ((12, 8), (14, 4), (16, 12)):
            more = edited(row, place, row[place] + 1)
            self.assertBroken(more, 3, 20)
            self.assertBroken(more + [0] * (size - 1), 3, 20)
            self.assertNotEqual(judge(more + [0] * size)[1], 3)

    def test_rule_2_comes_first(self):
        self.assertBroken(edited(the_run().row(), 18, 1)[:-1], 2, 18)


class Rule4(RuleCase):
    def test_x_above_the_width(self):
        points = [(0, 0), (30, 0), (31, 10), (0, 20), (30, 20)]
        self.assertBroken(the_run().changed(points=points).row(), 4, 36)

    def test_y_above_the_height(self):
        points = [(0, 0), (30, 0), (10, 10), (0, 20), (30, 21)]
        self.assertBroken(the_run().changed(points=points).row(), 4, 52)

    def test_all_bytes_of_a_point_count(self):
        row = the_run().row()
        for place in (37, 38, 39, 41, 42, 43):
            self.assertBroken(edited(row, place, 1), 4, 36)

    def test_the_same_point_twice(self):
        points = [(0, 0), (30, 0), (30, 0), (0, 20), (30, 20)]
        self.assertBroken(the_run().changed(points=points).row(), 4, 36)

    def test_of_one_y_by_x(self):
        points = [(30, 0), (0, 0), (10, 10), (0, 20), (30, 20)]
        self.assertBroken(the_run().changed(points=points).row(), 4, 28)

    def test_by_y_ahead_of_x(self):
        points = [(0, 0), (10, 10), (30, 0), (0, 20), (30, 20)]
        self.assertBroken(the_run().changed(points=points).row(), 4, 36)

    def test_the_least_place(self):
        points = [(0, 0), (0, 0), (31, 10), (0, 20), (30, 21)]
        self.assertBroken(the_run().changed(points=points).row(), 4, 28)
        points = [(31, 0), (0, 0), (31, 10), (0, 20), (30, 21)]
        self.assertBroken(the_run().changed(points=points).row(), 4, 20)

    def test_rule_3_comes_first(self):
        points = [(0, 0), (30, 0), (30, 0), (0, 20), (30, 20)]
        self.assertBroken(the_run().changed(points=points).row() + [0], 3, 20)


class Rule5(RuleCase):
    def assertLines(self, lines, place):
        self.assertBroken(the_run().changed(lines=lines).row(), 5, place)

    def test_first_not_below_second(self):
        self.assertLines([(0, 1), (0, 2), (0, 3), (2, 1), (2, 3), (2, 4), (3, 4)], 72)
        self.assertLines([(0, 1), (0, 2), (0, 3), (1, 1), (2, 3), (2, 4), (3, 4)], 72)

    def test_second_not_below_the_number_of_points(self):
        self.assertLines([(0, 1), (0, 2), (0, 3), (1, 2), (1, 4), (2, 3), (3, 5)], 84)
        self.assertLines([(0, 1), (0, 2), (0, 3), (1, 2), (1, 4), (2, 3), (3, 65535)], 84)
        self.assertLines([(0, 1), (0, 2), (0, 3), (1, 2), (1, 4), (2, 3), (3, 4 + 256)], 84)

    def test_both_numbers_too_great(self):
        self.assertLines([(0, 1), (0, 2), (0, 3), (1, 2), (1, 4), (2, 3), (5, 6)], 84)

    def test_the_same_line_twice(self):
        self.assertLines([(0, 1), (0, 2), (0, 2), (1, 2), (1, 4), (2, 3), (3, 4)], 68)

    def test_of_one_first_number_by_the_second(self):
        self.assertLines([(0, 1), (0, 3), (0, 2), (1, 2), (1, 4), (2, 3), (3, 4)], 68)

    def test_by_the_first_number_ahead_of_the_second(self):
        self.assertLines([(0, 1), (0, 2), (1, 4), (0, 3), (1, 2), (2, 3), (3, 4)], 72)

    def test_the_least_place(self):
        self.assertLines([(1, 0), (0, 2), (0, 2), (1, 2), (1, 4), (2, 3), (3, 5)], 60)
        self.assertLines([(0, 1), (0, 2), (0, 5), (1, 2), (1, 1), (2, 3), (3, 5)], 68)

    def test_rule_4_comes_first(self):
        points = [(0, 0), (30, 0), (10, 10), (0, 20), (30, 21)]
        lines = [(1, 0), (0, 2), (0, 3), (1, 2), (1, 4), (2, 3), (3, 4)]
        self.assertBroken(the_run().changed(points=points, lines=lines).row(), 4, 52)


class Rule6(RuleCase):
    def test_each_corner_of_the_frame(self):
        # The corner is cut off: points beside it on both edges are joined in its place.
        corners = {(0, 0): ((0, 4), (4, 0)), (20, 0): ((20, 4), (16, 0)),
                   (0, 18): ((0, 14), (4, 18)), (20, 18): ((20, 14), (16, 18))}
        for corner, beside in corners.items():
            with self.subTest(corner):
                whole = drawn(20, 18, frame(20, 18, *beside) + [beside], [(10, 9), inwards(corner, 20, 18)])
                self.assertTaken(whole)
                pairs = [pair for pair in frame(20, 18, *beside) if corner not in pair] + [beside]
                self.assertBroken(drawn(20, 18, pairs, [(10, 9)]).row(), 6, 20)

    def test_each_edge_of_the_frame(self):
        ways = {((0, 0), (20, 0)): (10, 3), ((0, 18), (20, 18)): (10, 15),
                ((0, 0), (0, 18)): (3, 9), ((20, 0), (20, 18)): (17, 9)}
        for edge, middle in ways.items():
            with self.subTest(edge):
                pairs = [pair for pair in frame(20, 18) if pair != edge]
                self.assertEqual(len(pairs), 3)
                pairs += path(edge[0], middle, edge[1])
                self.assertBroken(drawn(20, 18, pairs, [(8, 8)]).row(), 6, 20)
                self.assertEqual(judge(drawn(20, 18, pairs + [edge], [(8, 8)]).row())[1], 13)

    def test_each_part_of_each_edge(self):
        on_edge = ((5, 0), (9, 0), (20, 6), (20, 12), (4, 18), (16, 18), (0, 3), (0, 11))
        pairs = frame(20, 18, *on_edge)
        self.assertTaken(drawn(20, 18, pairs, [(10, 9)]))
        self.assertEqual(len(pairs), 12)
        for pair in pairs:
            with self.subTest(pair):
                left = [other for other in pairs if other != pair]
                self.assertBroken(drawn(20, 18, left, [(10, 9)]).row(), 6, 20)

    def test_a_line_past_a_point_of_the_edge(self):
        points = [(0, 0), (5, 0), (20, 0), (0, 18), (20, 18)]
        lines = [(0, 1), (0, 2), (0, 3), (2, 4), (3, 4)]
        self.assertBroken(Drawn(20, 18, points, lines, [(9, 9)]).row(), 6, 20)

    def test_a_point_next_to_the_edge_is_not_on_it(self):
        pairs = frame(20, 18) + path((0, 0), (10, 1), (20, 18)) + path((0, 0), (1, 10), (20, 18))
        marks = [(10, 10), (10, 17), (19, 1)]
        self.assertTaken(drawn(20, 18, pairs, marks))

    def test_rule_5_comes_first(self):
        lines = [(0, 2), (0, 3), (1, 2), (1, 4), (2, 3), (2, 3), (3, 4)]
        self.assertBroken(the_run().changed(lines=lines).row(), 5, 80)


def inwards(corner, width, height):
    """The point that is one to the side and one up or down from the corner, within the frame."""
    return (1 if corner[0] == 0 else width - 1, 1 if corner[1] == 0 else height - 1)


class Rule7(RuleCase):
    def test_a_point_on_a_line(self):
        lines = path((0, 0), (10, 9), (20, 18)) + [((0, 0), (20, 18))]
        changed = drawn(20, 18, frame(20, 18) + lines, [(15, 3), (3, 15)])
        self.assertBroken(changed.row(), 7, changed.line_place((0, 0), (20, 18)))

    def test_a_point_on_a_flat_and_on_a_steep_line(self):
        for p, middle, q in (((0, 6), (10, 6), (20, 6)), ((8, 0), (8, 6), (8, 18))):
            with self.subTest(q):
                pairs = frame(20, 18, p, q) + path(p, middle, q)
                marks = [(1, 1), (19, 17)]
                self.assertTaken(drawn(20, 18, pairs, marks))
                changed = drawn(20, 18, pairs + [(p, q)], marks)
                self.assertBroken(changed.row(), 7, changed.line_place(p, q))

    def test_a_point_of_no_line_on_a_line(self):
        # The point is the end of no line, but rule 7 comes ahead of rules 8 and 9.
        changed = drawn(20, 18, frame(20, 18) + [((20, 0), (0, 18))], [(1, 1), (19, 17)], more_points=[(10, 9)])
        self.assertBroken(changed.row(), 7, changed.line_place((20, 0), (0, 18)))

    def test_a_line_along_the_frame_past_its_point(self):
        points = [(0, 0), (5, 0), (20, 0), (0, 18), (20, 18)]
        lines = [(0, 1), (0, 2), (0, 3), (1, 2), (2, 4), (3, 4)]
        self.assertBroken(Drawn(20, 18, points, lines, [(9, 9)]).row(), 7, 20 + 40 + 4)

    def test_a_line_from_one_point_on_a_line_along_it(self):
        # (0, 6) to (14, 6) and (8, 6) to (20, 6) lie in part on one another: each has an end of the other on it.
        pairs = frame(20, 18, (0, 6), (20, 6)) + [((0, 6), (14, 6)), ((8, 6), (20, 6))]
        changed = drawn(20, 18, pairs, [(1, 1), (19, 17)])
        self.assertBroken(changed.row(), 7, changed.line_place((0, 6), (14, 6)))

    def test_a_point_in_a_row_with_a_line_but_beside_it(self):
        pairs = frame(20, 18, (0, 6), (20, 6)) + path((0, 6), (5, 6), (8, 8), (12, 6), (20, 6))
        self.assertTaken(drawn(20, 18, pairs, [(1, 1), (19, 17)]))

    def test_a_crossing(self):
        changed = drawn(20, 18, frame(20, 18) + [((0, 0), (20, 18)), ((20, 0), (0, 18))], [(10, 1)])
        self.assertBroken(changed.row(), 7, changed.line_place((20, 0), (0, 18)))

    def test_a_crossing_at_no_whole_numbers(self):
        pairs = frame(21, 17, (5, 0), (0, 6)) + [((0, 0), (21, 17)), ((5, 0), (0, 6))]
        changed = drawn(21, 17, pairs, [(10, 1)])
        self.assertBroken(changed.row(), 7, changed.line_place((5, 0), (0, 6)))

    def test_a_flat_and_a_steep_line_cross(self):
        pairs = frame(20, 18, (7, 0), (7, 18), (0, 5), (20, 5)) + [((7, 0), (7, 18)), ((0, 5), (20, 5))]
        changed = drawn(20, 18, pairs, [(1, 1)])
        self.assertBroken(changed.row(), 7, changed.line_place((0, 5), (20, 5)))

    def test_the_later_line_of_two_that_cross(self):
        # The line that crosses has the lower points within, so that it is either of the two by its number.
        pairs = frame(20, 18) + [((0, 0), (12, 12)), ((4, 8), (16, 4))]
        changed = drawn(20, 18, pairs, [(10, 1)])
        self.assertBroken(changed.row(), 7, changed.line_place((16, 4), (4, 8)))

    def test_a_line_that_crosses_many(self):
        pairs = frame(40, 18, (10, 0), (20, 0), (30, 0), (10, 18), (20, 18), (30, 18), (0, 9), (40, 9))
        pairs += [((10, 0), (10, 18)), ((20, 0), (20, 18)), ((30, 0), (30, 18)), ((0, 9), (40, 9))]
        changed = drawn(40, 18, pairs, [(1, 1)])
        self.assertBroken(changed.row(), 7, changed.line_place((0, 9), (40, 9)))

    def test_lines_with_an_end_in_common_do_not_cross(self):
        self.assertTaken(fan())

    def test_lines_that_end_at_one_another_do_not_cross(self):
        # (10, 9) is an end of three lines, two of which are in a row.
        pairs = frame(20, 18) + path((0, 0), (10, 9), (20, 18)) + [((10, 9), (0, 18))]
        self.assertTaken(drawn(20, 18, pairs, [(10, 1), (1, 9), (10, 17)]))

    def test_the_least_place(self):
        pairs = frame(20, 18) + [((0, 0), (20, 18)), ((20, 0), (0, 18))]
        pairs += path((10, 0), (10, 2), (10, 4)) + [((10, 0), (10, 4)), ((0, 0), (10, 0)), ((10, 0), (20, 0))]
        changed = drawn(20, 18, [pair for pair in pairs if pair != ((0, 0), (20, 0))], [(10, 1)])
        early, late = changed.line_place((10, 0), (10, 4)), changed.line_place((20, 0), (0, 18))
        self.assertLess(early, late)
        self.assertBroken(changed.row(), 7, early)

    def test_rule_6_comes_first(self):
        pairs = [pair for pair in frame(20, 18) if pair != ((0, 18), (20, 18))]
        changed = drawn(20, 18, pairs + [((0, 0), (20, 18)), ((20, 0), (0, 18))], [(10, 1)])
        self.assertBroken(changed.row(), 6, 20)


class Rule8(RuleCase):
    def test_the_end_of_no_line(self):
        changed = drawn(20, 18, frame(20, 18), [(9, 9)], more_points=[(5, 6)])
        self.assertBroken(changed.row(), 8, changed.point_place((5, 6)))

    def test_the_end_of_one_line(self):
        changed = drawn(20, 18, frame(20, 18) + [((0, 0), (5, 6))], [(9, 9)])
        self.assertBroken(changed.row(), 8, changed.point_place((5, 6)))

    def test_the_least_place(self):
        pairs = frame(20, 18) + [((0, 0), (9, 9)), ((0, 18), (5, 6))]
        changed = drawn(20, 18, pairs, [(12, 9)], more_points=[(15, 15)])
        self.assertBroken(changed.row(), 8, changed.point_place((5, 6)))
        changed = drawn(20, 18, pairs, [(12, 9)], more_points=[(15, 5)])
        self.assertBroken(changed.row(), 8, changed.point_place((15, 5)))

    def test_a_line_by_itself(self):
        changed = drawn(20, 18, frame(20, 18) + [((5, 6), (9, 9))], [(12, 9)])
        self.assertBroken(changed.row(), 8, changed.point_place((5, 6)))

    def test_rule_7_comes_first(self):
        pairs = frame(20, 18) + [((0, 0), (20, 18)), ((20, 0), (0, 18))]
        changed = drawn(20, 18, pairs, [(10, 1)], more_points=[(10, 2)])
        self.assertBroken(changed.row(), 7, changed.line_place((20, 0), (0, 18)))


class Rule9(RuleCase):
    def test_an_island(self):
        pairs = frame(40, 40) + path((10, 12), (30, 10), (20, 30), (10, 12))
        changed = drawn(40, 40, pairs, [(5, 5), (20, 20)])
        self.assertBroken(changed.row(), 9, changed.point_place((30, 10)))

    def test_the_least_of_two_islands(self):
        pairs = frame(60, 40) + path((10, 12), (20, 12), (20, 30), (10, 12)) + path((40, 9), (50, 11), (45, 20), (40, 9))
        changed = drawn(60, 40, pairs, [(5, 5)])
        self.assertBroken(changed.row(), 9, changed.point_place((40, 9)))

    def test_rule_9_comes_ahead_of_rule_10(self):
        # The two triangles of the island have one point in common; so have the frame and its triangle.
        island = path((20, 22), (30, 22), (25, 26), (20, 22)) + path((25, 26), (30, 30), (20, 30), (25, 26))
        pairs = frame(40, 40) + island + path((0, 0), (9, 3), (3, 9), (0, 0))
        changed = drawn(40, 40, pairs, [(5, 1)])
        self.assertBroken(changed.row(), 9, changed.point_place((20, 22)))

    def test_rule_8_comes_first(self):
        pairs = frame(40, 40) + path((10, 12), (30, 10), (20, 30), (10, 12))
        changed = drawn(40, 40, pairs, [(5, 5)], more_points=[(20, 35)])
        self.assertBroken(changed.row(), 8, changed.point_place((20, 35)))


class Rule10(RuleCase):
    def test_point_0(self):
        changed = drawn(40, 40, frame(40, 40) + path((0, 0), (9, 3), (3, 9), (0, 0)), [(5, 5), (20, 20)])
        self.assertBroken(changed.row(), 10, 20)

    def test_other_corners_and_points_of_edges(self):
        for point, one, two in (((40, 0), (30, 3), (35, 9)), ((0, 40), (3, 30), (9, 35)), ((40, 40), (30, 35), (35, 30)),
                                ((20, 0), (15, 5), (25, 5)), ((40, 20), (35, 25), (35, 15))):
            with self.subTest(point):
                pairs = frame(40, 40, point) + path(point, one, two, point)
                changed = drawn(40, 40, pairs, [(20, 20)])
                self.assertBroken(changed.row(), 10, changed.point_place(point))

    def test_a_point_within(self):
        # The island hangs on a way that comes in from one point of the frame: the point of the frame is the least.
        island = path((0, 0), (10, 10)) + path((10, 10), (30, 10), (30, 30), (10, 30), (10, 10))
        changed = drawn(40, 40, frame(40, 40) + island, [(20, 5), (20, 20)])
        self.assertBroken(changed.row(), 10, 20)
        # It hangs on a point of a way that goes from edge to edge: the ends of this way are none.
        island = path((0, 0), (20, 20), (40, 40)) + path((20, 20), (35, 22), (35, 28), (20, 20))
        changed = drawn(40, 40, frame(40, 40) + island, [(20, 5), (5, 20), (30, 24)])
        self.assertBroken(changed.row(), 10, changed.point_place((20, 20)))

    def test_a_way_within_an_island(self):
        # Two triangles joined by a line: both of its ends are such points, and so is where the first hangs.
        pairs = frame(60, 60) + path((60, 60), (50, 45), (45, 50), (60, 60)) + [((45, 50), (30, 35))]
        pairs += path((30, 35), (20, 33), (25, 38), (30, 35))
        changed = drawn(60, 60, pairs, [(5, 5)])
        self.assertBroken(changed.row(), 10, changed.point_place((30, 35)))

    def test_two_ways_are_enough(self):
        self.assertTaken(ring())

    def test_rule_10_comes_ahead_of_rule_11(self):
        changed = drawn(40, 40, frame(40, 40) + path((0, 0), (9, 3), (3, 9), (0, 0)), [(0, 5), (20, 20)])
        self.assertBroken(changed.row(), 10, 20)


class Rule11(RuleCase):
    def test_not_within_the_frame(self):
        row = one_pane().row()
        for x, y in ((0, 8), (16, 8), (8, 0), (8, 16), (17, 8), (8, 17), (0, 0), (16, 16), (2 ** 32 - 1, 8),
                     (8, 2 ** 32 - 1), (8 + 256, 8), (8, 8 + 65536), (8 + 2 ** 24, 8)):
            with self.subTest((x, y)):
                self.assertBroken(edited(row, 68, *(low_first(x, 4) + low_first(y, 4))), 11, 68)

    def test_next_to_the_frame(self):
        for x, y in ((1, 8), (15, 8), (8, 1), (8, 15), (1, 1), (15, 15)):
            with self.subTest((x, y)):
                self.assertTaken(one_pane().changed(marks=[(x, y)]))

    def test_a_wide_frame_is_not_as_high(self):
        wide = drawn(40, 16, frame(40, 16), [(39, 15)])
        self.assertTaken(wide)
        self.assertBroken(wide.changed(marks=[(15, 39)]).row(), 11, 68)
        high = drawn(16, 40, frame(16, 40), [(15, 39)])
        self.assertTaken(high)
        self.assertBroken(high.changed(marks=[(39, 15)]).row(), 11, 68)

    def test_on_a_line(self):
        for mark in ((20, 10), (5, 5), (12, 9), (14, 8)):
            with self.subTest(mark):
                pairs = frame(30, 20, (30, 10)) + path((0, 0), (10, 10), (30, 10)) + path((10, 10), (30, 0))
                pairs += [((10, 10), (0, 20))]
                changed = drawn(30, 20, pairs, [mark])
                self.assertBroken(changed.row(), 11, changed.mark_place(*mark))

    def test_on_a_point(self):
        changed = the_run().changed(marks=[(15, 2), (10, 10), (20, 15)])
        self.assertBroken(changed.row(), 11, changed.mark_place(10, 10))

    def test_in_a_row_with_a_line_but_beside_it(self):
        # (20, 20) is in a row with (0, 0) and (10, 10), and within no line's box but those it is beside of.
        pairs = frame(40, 40) + path((0, 0), (10, 10), (40, 0))
        self.assertTaken(drawn(40, 40, pairs, [(20, 5), (20, 20)]))
        self.assertTaken(drawn(40, 40, pairs, [(20, 5), (30, 10)]))

    def test_order(self):
        for marks in ([(15, 2), (20, 15), (2, 10)], [(15, 2), (20, 15), (19, 15)], [(15, 2), (2, 10), (2, 10)]):
            with self.subTest(marks):
                self.assertBroken(the_run().changed(marks=marks).row(), 11, 88 + 24)

    def test_of_one_y_by_x(self):
        grid_drawn = grid(5, 4, 6, False)
        self.assertEqual(grid_drawn.marks[0][1], grid_drawn.marks[1][1])
        swapped = grid_drawn.changed(marks=[grid_drawn.marks[1], grid_drawn.marks[0]] + grid_drawn.marks[2:])
        self.assertBroken(swapped.row(), 11, swapped.mark_place(*grid_drawn.marks[0][:2]))

    def test_the_least_place(self):
        self.assertBroken(the_run().changed(marks=[(15, 2), (5, 5), (0, 10)]).row(), 11, 100)
        self.assertBroken(the_run().changed(marks=[(15, 2), (30, 2), (10, 10)]).row(), 11, 100)
        self.assertBroken(the_run().changed(marks=[(15, 2), (15, 2), (0, 20)]).row(), 11, 100)
        self.assertBroken(the_run().changed(marks=[(15, 20), (15, 2), (5, 5)]).row(), 11, 88)

    def test_rule_11_comes_ahead_of_rule_12(self):
        changed = the_run().changed(marks=[(15, 2), (16, 2), (10, 10)])
        self.assertBroken(changed.row(), 11, changed.mark_place(10, 10))


class Rule12(RuleCase):
    def test_two_marks_in_one_pane(self):
        for marks, mark in (([(15, 2), (16, 2), (2, 10)], (16, 2)), ([(15, 2), (2, 10), (2, 11)], (2, 11)),
                            ([(15, 2), (29, 2), (20, 15)], (20, 15))):
            with self.subTest(marks):
                changed = the_run().changed(marks=marks)
                self.assertBroken(changed.row(), 12, changed.mark_place(*mark))

    def test_a_mark_too_many(self):
        for cartoon in (the_run(), one_pane(), straight_on(), comb(), spiral(), ring(), bent()):
            mark = (cartoon.width - 1, cartoon.height - 2)
            with self.subTest(mark):
                changed = cartoon.changed(marks=cartoon.marks + [mark])
                self.assertBroken(changed.row(), 12, changed.mark_place(*mark))

    def test_the_least_place(self):
        changed = the_run().changed(marks=[(15, 2), (16, 2), (2, 10), (2, 11), (20, 15), (21, 15)])
        self.assertBroken(changed.row(), 12, changed.mark_place(16, 2))

    def test_in_panes_that_are_not_convex(self):
        for cartoon, marks in ((comb(), [(5, 10 + 5), (55, 15)]), (comb(), [(15, 35), (35, 35)]),
                               (spiral(), [(5, 15), (15, 85)]), (spiral(), [(5, 25), (40, 45)]),
                               (bent(), [(2, 2), (10, 20), (12, 4)])):
            with self.subTest(marks):
                changed = cartoon.changed(marks=sorted(marks, key=lambda mark: (mark[1], mark[0])))
                self.assertEqual(judge(changed.row())[1], 12)

    def test_rule_12_comes_ahead_of_rule_13(self):
        changed = the_run().changed(marks=[(15, 2), (16, 2)])
        self.assertBroken(changed.row(), 12, changed.mark_place(16, 2))


class Rule13(RuleCase):
    def test_a_pane_without_a_mark(self):
        for marks in ([(15, 2)], [(2, 10)], [(15, 2), (2, 10)], [(2, 10), (20, 15)], [(15, 2), (20, 15)]):
            with self.subTest(marks):
                row = the_run().changed(marks=marks).row()
                self.assertBroken(row, 13, len(row))

    def test_each_mark_left_out(self):
        for name, cartoon in cartoons().items():
            for number in range(0, len(cartoon.marks), 1 + len(cartoon.marks) // 10):
                if len(cartoon.marks) > 1:
                    with self.subTest((name, number)):
                        row = cartoon.changed(marks=cartoon.marks[:number] + cartoon.marks[number + 1:]).row()
                        self.assertBroken(row, 13, len(row))

    def test_a_pane_in_which_no_point_lies(self):
        # Between (0, 0), (1, 1) and (16, 15) there is none with whole numbers.
        pairs = frame(16, 16) + path((0, 0), (1, 1), (16, 15)) + [((0, 0), (16, 15))]
        pairs = [pair for pair in pairs if pair != ((16, 0), (16, 16))] + path((16, 0), (16, 15), (16, 16))
        row = drawn(16, 16, pairs, [(10, 1), (1, 10)]).row()
        self.assertBroken(row, 13, len(row))


class MarksAtTheHeightOfPoints(RuleCase):
    """Marks that have points of outlines straight to their left and right."""

    def zigzag(self, heights):
        """A way across the frame whose points have these heights, 10 apart."""
        points = [(10 * k, height) for k, height in enumerate(heights)]
        width = 10 * (len(heights) - 1)
        return drawn(width, 40, frame(width, 40, points[0], points[-1]) + path(*points), [(1, 1), (1, 39)])

    def test_above_and_below_a_way(self):
        # At the height of 20 the way has tips from above, tips from below, flat parts and parts that go through.
        heights = (30, 20, 30, 10, 20, 10, 20, 20, 30, 20, 20, 10, 30, 20, 10, 20, 30, 20, 30)
        cartoon = self.zigzag(heights)
        self.assertTaken(cartoon)
        for x in range(1, cartoon.width):
            k, rest = divmod(x, 10)
            ten_heights = 10 * heights[k] + (rest and rest * (heights[k + 1] - heights[k]))
            if ten_heights != 200:
                below = 200 < ten_heights
                with self.subTest((x, below)):
                    marks = [(x, 20), (1, 39)] if below else [(1, 1), (x, 20)]
                    self.assertTaken(cartoon.changed(marks=marks))
                    wrong = [(1, 1), (x, 20)] if below else [(x, 20), (1, 39)]
                    changed = cartoon.changed(marks=wrong)
                    self.assertBroken(changed.row(), 12, changed.mark_place(*wrong[1]))

    def test_at_every_height(self):
        heights = (30, 20, 30, 10, 20, 10, 20, 20, 30, 20, 20, 10, 30, 20, 10, 20, 30, 20, 30)
        cartoon = self.zigzag(heights)
        for x in (4, 5, 16, 25, 44, 65, 98, 115, 116, 177):
            k, rest = divmod(x, 10)
            ten_heights = 10 * heights[k] + rest * (heights[k + 1] - heights[k])
            for y in range(1, 40):
                if 10 * y < ten_heights:
                    self.assertTaken(cartoon.changed(marks=[(x, y), (1, 39)]))
                elif 10 * y > ten_heights:
                    self.assertTaken(cartoon.changed(marks=[(1, 1), (x, y)]))
                else:
                    self.assertEqual(judge(cartoon.changed(marks=[(x, y)]).row())[1], 11)

    def test_beside_a_steep_line_with_points(self):
        pairs = frame(20, 40, (10, 0), (10, 40)) + path((10, 0), (10, 10), (10, 20), (10, 40))
        for left in (10, 20, 30):
            for right in (10, 20, 30):
                marks = sorted([(5, left), (15, right)], key=lambda mark: (mark[1], mark[0]))
                self.assertTaken(drawn(20, 40, pairs, marks))


class Taken(RuleCase):
    def test_the_stock(self):
        for name, cartoon in cartoons().items():
            with self.subTest(name):
                self.assertEqual(judge(cartoon.row()), [0])

    def test_outlines_that_go_straight_on(self):
        self.assertTaken(straight_on())

    def test_glass_and_painting_may_be_any(self):
        for glass, painting in ((0, 0), (65535, 65535), (1, 65535), (256, 255)):
            self.assertTaken(one_pane().changed(marks=[(8, 8, glass, painting)]))


if __name__ == "__main__":
    unittest.main()
