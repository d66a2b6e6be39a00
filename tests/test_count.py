"""What holds of judge and count as calls: what is looked at first, how answers stand, the largest inputs."""

import itertools
import unittest

from glasscartoons.plans import count, judge
from tests.helper import GREATEST, cartoons, drawn, edited, frame, nested, path, the_run

# Bytes that are no cartoon, and their refusals.
REFUSED = (
    ([], [-5, 1, 0]),
    ([0] * 19, [-5, 1, 19]),
    ([0] * 20, [-5, 1, 0]),
    (the_run().row()[:-1], [-5, 3, 20]),
    (the_run().row() + [0], [-5, 3, 20]),
    (the_run().changed(marks=[(15, 2)]).row(), [-5, 13, 100]),
    ([0] * 131072, [-5, 1, 0]),
)


class Count(unittest.TestCase):
    def test_points_lines_panes(self):
        for name, cartoon in cartoons().items():
            with self.subTest(name):
                row = cartoon.row()
                self.assertEqual(count(0, row), [0, len(cartoon.points)])
                self.assertEqual(count(1, row), [0, len(cartoon.lines)])
                self.assertEqual(count(2, row), [0, len(cartoon.lines) - len(cartoon.points) + 1])

    def test_what_above_2(self):
        for what in (3, 4, 255, 256, 2 ** 32, 2 ** 63, GREATEST):
            self.assertEqual(count(what, the_run().row()), [-1])

    def test_bytes_that_are_no_cartoon(self):
        for row, refusal in REFUSED:
            for what in (0, 1, 2):
                self.assertEqual(count(what, row), refusal)

    def test_what_above_2_is_looked_at_first(self):
        for row, refusal in REFUSED:
            for what in (3, GREATEST):
                self.assertEqual(count(what, row), [-1])
        self.assertEqual(count(3, [0] * 131073), [-1])

    def test_more_bytes_than_131072(self):
        for what in (0, 1, 2):
            self.assertEqual(count(what, [0] * 131073), [-6])


class Judge(unittest.TestCase):
    def test_bytes_that_are_no_cartoon(self):
        for row, refusal in REFUSED:
            self.assertEqual(judge(row), refusal)

    def test_more_bytes_than_131072(self):
        self.assertEqual(judge([0] * 131073), [-6])
        self.assertEqual(judge(the_run().row() + [0] * 131072), [-6])


class Kinds(unittest.TestCase):
    def answers(self, row):
        return [judge(row)] + [count(what, row) for what in (0, 1, 2, 3, GREATEST)]

    def rows(self):
        return [cartoon.row() for cartoon in cartoons().values()] + [row for row, refusal in REFUSED]

    def test_an_answer_is_a_list_of_whole_numbers(self):
        for row in self.rows():
            for answer in self.answers(row):
                self.assertIs(type(answer), list)
                for number in answer:
                    self.assertIs(type(number), int)

    def test_what_is_handed_in_is_not_changed(self):
        for row in self.rows():
            before = list(row)
            self.answers(row)
            self.assertEqual(row, before)

    def test_not_for_a_while_either(self):
        class Watched(list):
            def touched(self, *arguments, **named):
                raise RuntimeError("a row that was handed in is changed")

            append = clear = extend = insert = pop = remove = reverse = sort = touched
            __setitem__ = __delitem__ = __iadd__ = __imul__ = touched

        for row in self.rows():
            self.assertEqual(self.answers(Watched(row)), self.answers(row))

    def test_nothing_is_kept(self):
        rows = self.rows()
        first = [self.answers(row) for row in rows]
        again = [self.answers(row) for row in reversed(rows)]
        self.assertEqual(first, again[::-1])

    def test_an_answer_is_the_callers_own(self):
        for row in (the_run().row(), []):
            first = self.answers(row)
            for answer in self.answers(row):
                answer.append(7)
            self.assertEqual(self.answers(row), first)


class ItsOwnBytes(unittest.TestCase):
    """A cartoon's bytes are its own: what tells the same in another order is refused."""

    def test_points_in_another_order(self):
        cartoon = the_run()
        for order in itertools.permutations(range(5)):
            points = [cartoon.points[number] for number in order]
            numbers = [order.index(number) for number in range(5)]
            lines = sorted(tuple(sorted((numbers[a], numbers[b]))) for a, b in cartoon.lines)
            answer = judge(cartoon.changed(points=points, lines=lines).row())
            if points == cartoon.points:
                self.assertEqual(answer, [0])
            else:
                self.assertEqual(answer[:2], [-5, 4])

    def test_lines_in_another_order(self):
        cartoon = the_run()
        for order in itertools.permutations(cartoon.lines):
            answer = judge(cartoon.changed(lines=order).row())
            if list(order) == cartoon.lines:
                self.assertEqual(answer, [0])
            else:
                self.assertEqual(answer[:2], [-5, 5])

    def test_a_line_from_its_higher_number(self):
        cartoon = the_run()
        for number, line in enumerate(cartoon.lines):
            lines = cartoon.lines[:number] + [(line[1], line[0])] + cartoon.lines[number + 1:]
            self.assertEqual(judge(cartoon.changed(lines=lines).row())[:2], [-5, 5])

    def test_marks_in_another_order(self):
        cartoon = the_run()
        for order in itertools.permutations(cartoon.marks):
            answer = judge(cartoon.changed(marks=order).row())
            if list(order) == cartoon.marks:
                self.assertEqual(answer, [0])
            else:
                self.assertEqual(answer[:2], [-5, 11])

    def test_every_byte_but_the_marks_counts(self):
        # Of the frame, the points and the lines no byte can be another one alone: all else would be another drawing.
        row = the_run().row()
        for place in range(60, 88):
            self.assertNotEqual(judge(edited(row, place, row[place] ^ 128)), [0])
        for place in range(20):
            self.assertNotEqual(judge(edited(row, place, row[place] ^ 1)), [0])


class Largest(unittest.TestCase):
    """Answers come for the largest rows that may be handed in, too."""

    def test_60000_bytes(self):
        row = nested(200).row()
        self.assertEqual(judge(row + [0] * (60000 - len(row))), [-5, 3, 20])
        self.assertEqual(judge([255] * 60000), [-5, 1, 0])

    def all_lines(self):
        """200 points, 8192 lines, of which very many cross, 2048 marks."""
        cartoon = nested(200)
        lines = set(cartoon.lines)
        for line in itertools.combinations(range(200), 2):
            if len(lines) < 8192:
                lines.add(line)
        marks = [(1 + k % 512, 1 + k // 512) for k in range(2048)]
        return cartoon.changed(lines=sorted(lines), marks=marks)

    def test_8192_lines(self):
        changed = self.all_lines()
        row = changed.row()
        self.assertEqual(len(row), 20 + 8 * 200 + 4 * 8192 + 12 * 2048)
        answer = judge(row)
        self.assertEqual(answer[:2], [-5, 7])
        self.assertEqual(count(2, row), answer)

    def test_8192_lines_of_which_the_last_is_wrong(self):
        changed = self.all_lines()
        changed = changed.changed(lines=changed.lines[:-1] + [(199, 200)])
        self.assertEqual(judge(changed.row()), [-5, 5, 20 + 1600 + 4 * 8191])

    def test_2048_marks(self):
        # All are in order, within the frame and on no line but the last, which lies on the point (0, H).
        cartoon = nested(200)
        step = 500
        marks = [(k * step + 1, k * step + 3) for k in range(2, 2049)]
        row = cartoon.changed(marks=marks + [(0, cartoon.height)]).row()
        self.assertEqual(judge(row), [-5, 11, len(row) - 12])
        row = cartoon.changed(marks=marks).row()
        self.assertEqual(judge(row)[:2], [-5, 12])

    def test_a_way_of_196_points(self):
        points = [(5 * k, 10 + 50 * (k % 2)) for k in range(196)]
        cartoon = drawn(975, 70, frame(975, 70, points[0], points[-1]) + path(*points), [(2, 2), (2, 68)])
        self.assertEqual(len(cartoon.points), 200)
        self.assertEqual([count(what, cartoon.row()) for what in range(3)], [[0, 200], [0, 201], [0, 2]])

    def test_one_pane_of_200_points(self):
        on_edge = [(k, 0) for k in range(1, 197)]
        cartoon = drawn(200, 16, frame(200, 16, *on_edge), [(2, 2)])
        self.assertEqual([count(what, cartoon.row()) for what in range(3)], [[0, 200], [0, 200], [0, 1]])

    def test_a_point_at_which_199_lines_end(self):
        on_edge = [(5 * k, 0) for k in range(1, 197)]
        pairs = frame(985, 9000, *on_edge) + [((0, 9000), point) for point in on_edge + [(985, 0)]]
        marks = [(5 * k + 2, 1) for k in range(197)] + [(984, 8999)]
        cartoon = drawn(985, 9000, pairs, marks)
        self.assertEqual(sum((0, 9000) in pair for pair in pairs), 199)
        self.assertEqual([count(what, cartoon.row()) for what in range(3)], [[0, 200], [0, 397], [0, 198]])


if __name__ == "__main__":
    unittest.main()
