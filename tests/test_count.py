"""What holds of judge and count as calls: what is looked at first, how answers stand, the largest inputs."""

import itertools
import unittest

from glasscartoons.plans import count, judge
from tests.helper import GREATEST, REFUSED, assert_kinds, cartoons, crowded, drawn, edited, frame, nested, the_run


class Count(unittest.TestCase):
    def test_points_lines_panes(self):
        for name, cartoon in cartoons().items():
            with self.subTest(name):
                row = cartoon.row()
                self.assertEqual(count(0, row), [0, len(cartoon.points)])
                self.assertEqual(count(1, row), [0, len(cartoon.lines)])
                self.assertEqual(count(2, row), [0, len(cartoon.lines) - len(cartoon.points) + 1])

    def test_what_above_2(self):
        for what in (3, 4, 255, 256, 2 ** 32, 2 ** 63, GREATEST):
            self.assertEqual(count(what, the_run().row()), [-1])

    def test_bytes_that_are_no_cartoon(self):
        for row, refusal in REFUSED:
            for what in (0, 1, 2):
                self.assertEqual(count(what, row), refusal)

    def test_what_above_2_is_looked_at_first(self):
        for row, refusal in REFUSED:
            for what in (3, GREATEST):
                self.assertEqual(count(what, row), [-1])
        self.assertEqual(count(3, [0] * 131073), [-1])

    def test_more_bytes_than_131072(self):
        for what in (0, 1, 2):
            self.assertEqual(count(what, [0] * 131073), [-6])


class Judge(unittest.TestCase):
    def test_bytes_that_are_no_cartoon(self):
        for row, refusal in REFUSED:
            self.assertEqual(judge(row), refusal)

    def test_more_bytes_than_131072(self):
        self.assertEqual(judge(the_run().row() + [0] * 131072), [-6])


class Kinds(unittest.TestCase):
    def test_answers(self):
        assert_kinds(self, lambda row: [judge(row)] + [count(what, row) for what in (0, 2, 3, GREATEST)])


class ItsOwnBytes(unittest.TestCase):
    """A cartoon's bytes are its own: what tells the same in another order is refused."""

    def test_points_in_another_order(self):
        cartoon = the_run()
        for order in itertools.permutations(range(5)):
            points = [cartoon.points[number] for number in order]
            numbers = [order.index(number) for number in range(5)]
            lines = sorted(tuple(sorted((numbers[a], numbers[b]))) for a, b in cartoon.lines)
            answer = judge(cartoon.changed(points=points, lines=lines).row())
            if points == cartoon.points:
                self.assertEqual(answer, [0])
            else:
                self.assertEqual(answer[:2], [-5, 4])

    def test_lines_in_another_order(self):
        cartoon = the_run()
        for order in itertools.permutations(cartoon.lines):
            answer = judge(cartoon.changed(lines=order).row())
            if list(order) == cartoon.lines:
                self.assertEqual(answer, [0])
            else:
                self.assertEqual(answer[:2], [-5, 5])

    def test_a_line_from_its_higher_number(self):
        cartoon = the_run()
        for number, line in enumerate(cartoon.lines):
            lines = cartoon.lines[:number] + [(line[1], line[0])] + cartoon.lines[number + 1:]
            self.assertEqual(judge(cartoon.changed(lines=lines).row())[:2], [-5, 5])

    def test_marks_in_another_order(self):
        cartoon = the_run()
        for order in itertools.permutations(cartoon.marks):
            answer = judge(cartoon.changed(marks=order).row())
            if list(order) == cartoon.marks:
                self.assertEqual(answer, [0])
            else:
                self.assertEqual(answer[:2], [-5, 11])

    def test_every_byte_but_the_marks_counts(self):
        # Of the frame, the points and the lines no byte can be another one alone: all else would be another drawing.
        row = the_run().row()
        for place in range(60, 88):
            self.assertNotEqual(judge(edited(row, place, row[place] ^ 128)), [0])
        for place in range(20):
            self.assertNotEqual(judge(edited(row, place, row[place] ^ 1)), [0])


class Largest(unittest.TestCase):
    """Answers come for the largest rows that may be handed in, too."""

    def test_60000_bytes(self):
        row = nested(200).row()
        self.assertEqual(judge(row + [0] * (60000 - len(row))), [-5, 3, 20])
        self.assertEqual(judge([255] * 60000), [-5, 1, 0])

    def test_8192_lines(self):
        changed = crowded()
        row = changed.row()
        self.assertEqual(len(row), 20 + 8 * 200 + 4 * 8192 + 12 * 2048)
        answer = judge(row)
        self.assertEqual(answer[:2], [-5, 7])
        self.assertEqual(count(2, row), answer)

    def test_8192_lines_of_which_the_last_is_wrong(self):
        changed = crowded()
        changed = changed.changed(lines=changed.lines[:-1] + [(199, 200)])
        self.assertEqual(judge(changed.row()), [-5, 5, 20 + 1600 + 4 * 8191])

    def test_2048_marks(self):
        # All are in order, within the frame and on no line but the last, which lies on the point (0, H).
        cartoon = nested(200)
        step = 500
        marks = [(k * step + 1, k * step + 3) for k in range(2, 2049)]
        row = cartoon.changed(marks=marks + [(0, cartoon.height)]).row()
        self.assertEqual(judge(row), [-5, 11, len(row) - 12])
        row = cartoon.changed(marks=marks).row()
        self.assertEqual(judge(row)[:2], [-5, 12])

    def test_200_points(self):
        found = {}
        for name, cartoon in cartoons().items():
            if len(cartoon.points) == 200:
                found[name] = [count(what, cartoon.row()) for what in range(3)]
        self.assertEqual(found, {
            "largest grid": [[0, 200], [0, 541], [0, 342]],
            "nested": [[0, 200], [0, 593], [0, 394]],
            "long way": [[0, 200], [0, 201], [0, 2]],
            "long edge": [[0, 200], [0, 200], [0, 1]],
            "great fan": [[0, 200], [0, 397], [0, 198]],
        })

    def test_both_bytes_of_how_many_points_count(self):
        on_edge = [(k, 0) for k in range(1, 297)]
        cartoon = drawn(300, 16, frame(300, 16, *on_edge), [(2, 2)])
        self.assertEqual([count(what, cartoon.row()) for what in range(3)], [[0, 300], [0, 300], [0, 1]])


if __name__ == "__main__":
    unittest.main()
