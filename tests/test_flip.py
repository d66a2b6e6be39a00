"""The call flip: a cartoon mirrored, left and right in one another's place."""

import unittest

from glasscartoons.plans import at, flip, judge
from tests.helper import (REFUSED, Drawn, assert_kinds, assert_panes_go_along, bent, cartoons, comb, crowded, drawn,
                          fan, frame, great_fan, greatest_frame, grid, mirrored, nested, one_pane, path, ring,
                          row_behind, spiral, straight_on, the_run)
from tests.test_reference import Reference, cartoons_by_chance, several
from tests.test_turn import turned_row


def flipped_row(row):
    """The bytes of what comes of it."""
    return row_behind(flip(row))


def roof(left, right):
    """Its own mirror image in all but its marks: a pane at each side with the glass told, two in the middle."""
    pairs = frame(40, 20, (20, 0), (20, 20)) + path((0, 0), (20, 10), (40, 0)) + path((0, 20), (20, 10), (40, 20))
    pairs += [((20, 0), (20, 10)), ((20, 10), (20, 20))]
    marks = [(15, 1, 1), (25, 1, 1), (3, 10) + left, (37, 10) + right, (15, 19, 2), (25, 19, 2)]
    return drawn(40, 20, pairs, marks)


class Flipped(unittest.TestCase):
    def test_the_run(self):
        self.assertEqual(flip(the_run().row()), [
            0, 124, 0x47, 0x4C, 0x41, 0x31, 30, 0, 0, 0, 20, 0, 0, 0, 5, 0, 7, 0, 3, 0, 0, 0,
            0, 0, 0, 0, 0, 0, 0, 0, 30, 0, 0, 0, 0, 0, 0, 0, 20, 0, 0, 0, 10, 0, 0, 0,
            0, 0, 0, 0, 20, 0, 0, 0, 30, 0, 0, 0, 20, 0, 0, 0,
            0, 0, 1, 0, 0, 0, 2, 0, 0, 0, 3, 0, 1, 0, 2, 0, 1, 0, 4, 0, 2, 0, 4, 0, 3, 0, 4, 0,
            15, 0, 0, 0, 2, 0, 0, 0, 5, 0, 0, 0, 28, 0, 0, 0, 10, 0, 0, 0, 6, 0, 0, 0,
            10, 0, 0, 0, 15, 0, 0, 0, 7, 0, 0, 0])

    def test_a_frame_that_is_not_as_wide_as_high(self):
        for width, height in ((16, 40), (40, 16), (16, 1048575), (1048575, 16), (256, 65536), (70000, 300)):
            on_edge = [(5, 0), (width, 7), (width - 3, height), (0, height - 1)]
            cartoon = drawn(width, height, frame(width, height, *on_edge) + [((5, 0), (width, 7))],
                            [(width - 1, 1, 65535, 256), (1, height - 2, 257, 65280)])
            self.assertEqual(flipped_row(cartoon.row()), mirrored(cartoon).row())
            self.assertEqual(judge(flipped_row(cartoon.row())), [0])

    def test_its_own_mirror_image(self):
        two_points = drawn(40, 16, frame(40, 16, (10, 0), (30, 0)), [(20, 3, 5, 6)])
        for cartoon in (one_pane(), roof((7, 9), (7, 9)), two_points):
            self.assertEqual(judge(cartoon.row()), [0])
            self.assertEqual(flipped_row(cartoon.row()), cartoon.row())

    def test_its_own_mirror_image_but_for_the_glass(self):
        for left, right in (((1, 0), (2, 0)), ((2, 0), (1, 0)), ((256, 0), (1, 0)), ((0, 3), (0, 4)), ((5, 6), (6, 5)),
                            ((65535, 0), (0, 65535)), ((258, 772), (772, 258))):
            cartoon = roof(left, right)
            self.assertEqual(judge(cartoon.row()), [0])
            self.assertEqual(flipped_row(cartoon.row()), roof(right, left).row())
            self.assertNotEqual(flipped_row(cartoon.row()), cartoon.row())

    def test_points_of_one_y_change_their_order(self):
        # Four points of the lower edge, unevenly apart; lines from the upper left corner to those within it.
        cartoon = Drawn(50, 20, [(0, 0), (10, 0), (15, 0), (50, 0), (0, 20), (50, 20)],
                        [(0, 1), (0, 4), (1, 2), (1, 4), (2, 3), (2, 4), (3, 5), (4, 5)],
                        [(1, 1, 10), (11, 1, 11), (30, 1, 12)])
        self.assertEqual(judge(cartoon.row()), [0])
        other = Drawn(50, 20, [(0, 0), (35, 0), (40, 0), (50, 0), (0, 20), (50, 20)],
                      [(0, 1), (0, 4), (1, 2), (1, 5), (2, 3), (2, 5), (3, 5), (4, 5)],
                      [(20, 1, 12), (39, 1, 11), (49, 1, 10)])
        self.assertEqual(flip(cartoon.row()), [0, 136] + other.row())
        self.assertEqual(flip(other.row()), [0, 136] + cartoon.row())

    def test_a_lines_numbers_change_places(self):
        # Of level lines the left end is the first; the line within has its ends at two heights and keeps them so.
        cartoon = Drawn(20, 30, [(0, 0), (20, 0), (4, 10), (14, 10), (0, 30), (20, 30)],
                        [(0, 1), (0, 2), (0, 4), (1, 5), (2, 3), (3, 5), (4, 5)], [(10, 1, 1), (10, 29, 2)])
        self.assertEqual(judge(cartoon.row()), [0])
        other = Drawn(20, 30, [(0, 0), (20, 0), (6, 10), (16, 10), (0, 30), (20, 30)],
                      [(0, 1), (0, 4), (1, 3), (1, 5), (2, 3), (2, 4), (4, 5)], [(10, 1, 1), (10, 29, 2)])
        self.assertEqual(flip(cartoon.row()), [0, len(other.row())] + other.row())

    def test_marks_of_one_y_change_their_order(self):
        kinds = [(256, 1), (1, 256), (65535, 0), (0, 65535), (258, 772), (65280, 255)]
        cells = grid(4, 3, 8, False)
        marks = [mark[:2] + kind for mark, kind in zip(cells.marks, kinds)]
        found = flipped_row(cells.changed(marks=marks).row())
        # Three cells each at two heights: of the first three, then of the others, the last comes first.
        spots = [(7, 1), (15, 1), (23, 1), (7, 9), (15, 9), (23, 9)]
        turned_round = [kinds[k] for k in (2, 1, 0, 5, 4, 3)]
        expected = cells.changed(marks=[spot + kind for spot, kind in zip(spots, turned_round)])
        self.assertEqual(found, expected.row())

    def test_the_stock(self):
        for name, cartoon in cartoons().items():
            with self.subTest(name):
                self.assertEqual(flip(cartoon.row()), [0, len(cartoon.row())] + mirrored(cartoon).row())

    def test_by_chance(self):
        for number, cartoon in enumerate(cartoons_by_chance()):
            with self.subTest(number):
                self.assertEqual(flip(cartoon.row()), [0, len(cartoon.row())] + mirrored(cartoon).row())

    def test_what_comes_of_it_is_a_cartoon(self):
        for name, cartoon in cartoons().items():
            with self.subTest(name):
                self.assertEqual(judge(flipped_row(cartoon.row())), [0])

    def test_what_comes_of_it_is_a_cartoon_to_the_reference(self):
        for name, cartoon in several().items():
            with self.subTest(name):
                self.assertEqual(Reference(flipped_row(cartoon.row())).judged(), [0])


class OneBehindTheOther(unittest.TestCase):
    def test_mirrored_twice_it_is_itself(self):
        for name, cartoon in list(several().items()) + list(cartoons().items()):
            with self.subTest(name):
                self.assertEqual(flipped_row(flipped_row(cartoon.row())), cartoon.row())

    def test_and_turned_by_two_quarters(self):
        for name, cartoon in several().items():
            row = cartoon.row()
            with self.subTest(name):
                self.assertEqual(turned_row(2, flipped_row(row)), flipped_row(turned_row(2, row)))

    def test_and_turned_by_two_quarters_large_ones(self):
        for cartoon in (nested(200), great_fan(), grid(20, 10, 7, True)):
            row = cartoon.row()
            self.assertEqual(turned_row(2, flipped_row(row)), flipped_row(turned_row(2, row)))

    def test_and_turned_by_one_quarter(self):
        # Mirrored, it is turned the other way round.
        for name, cartoon in several().items():
            row = cartoon.row()
            with self.subTest(name):
                self.assertEqual(turned_row(1, flipped_row(row)), flipped_row(turned_row(3, row)))

    def test_no_turn_is_as_good_as_mirroring(self):
        row = the_run().row()
        self.assertNotIn(flipped_row(row), [turned_row(quarters, row) for quarters in range(4)])


class Panes(unittest.TestCase):
    def test_a_pane_goes_with_its_mark(self):
        for cartoon in (the_run(), comb(), spiral(), ring(), bent(), straight_on(), fan(), greatest_frame()):
            drawing = mirrored(cartoon)
            self.assertEqual(flipped_row(cartoon.row()), drawing.row())
            assert_panes_go_along(self, cartoon, drawing, lambda x, y, width=cartoon.width: (width - x, y))

    def test_what_a_pane_holds_goes_with_it(self):
        cartoon = the_run()
        row, new = cartoon.row(), flipped_row(cartoon.row())
        # The marks are at three heights, so that the panes keep their numbers.
        for x in range(31):
            for y in range(22):
                self.assertEqual(at(30 - x, y, new), at(x, y, row))


class Refused(unittest.TestCase):
    def test_bytes_that_are_no_cartoon(self):
        for row, refusal in REFUSED:
            self.assertEqual(flip(row), refusal)

    def test_the_largest_rows(self):
        row = nested(200).row()
        self.assertEqual(flip(row + [0] * (60000 - len(row))), [-5, 3, 20])
        row = crowded().row()
        self.assertEqual(flip(row), judge(row))


class Kinds(unittest.TestCase):
    def test_answers(self):
        assert_kinds(self, lambda row: [flip(row)])

    def test_the_answer_is_a_row_of_its_own(self):
        row = one_pane().row()
        answer = flip(row)
        answer[2] = 0
        self.assertEqual(row[0], 0x47)
        self.assertEqual(flip(row)[2], 0x47)

    def test_bytes(self):
        for cartoon in (greatest_frame(), nested(200)):
            self.assertTrue(all(0 <= number <= 255 for number in flip(cartoon.row())[2:]))


if __name__ == "__main__":
    unittest.main()
