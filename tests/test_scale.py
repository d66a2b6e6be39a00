"""The call scale: a cartoon with all lengths so many times."""

import unittest

from glasscartoons.plans import at, flip, judge, scale, turn
from tests.helper import (GREATEST, REFUSED, Drawn, assert_kinds, assert_panes_go_along, bent, cartoons, comb, crowded,
                          drawn, fan, frame, greatest_frame, grid, long_edge, magnified, nested, one_pane, ring,
                          row_behind, spiral, straight_on, the_run)
from tests.test_reference import Reference, cartoons_by_chance, several

MOST = 1048575


def scaled_row(k, row):
    """The bytes of what comes of it."""
    return row_behind(scale(k, row))


def greatest_k(cartoon):
    """The greatest k for which neither side of the frame comes above the most that it may be."""
    return MOST // max(cartoon.width, cartoon.height)


def framed(width, height):
    """A cartoon of two panes in such a frame, with points on all edges."""
    on_edge = [(5, 0), (width, 7), (width - 3, height), (0, height - 1)]
    return drawn(width, height, frame(width, height, *on_edge) + [((5, 0), (width, 7))],
                 [(width - 1, 1, 65535, 256), (1, height - 2, 257, 65280)])


class Scaled(unittest.TestCase):
    def test_the_run(self):
        twice = Drawn(60, 40, [(0, 0), (60, 0), (20, 20), (0, 40), (60, 40)],
                      [(0, 1), (0, 2), (0, 3), (1, 2), (1, 4), (2, 3), (3, 4)], [(30, 4, 5), (4, 20, 6), (40, 30, 7)])
        thrice = Drawn(90, 60, [(0, 0), (90, 0), (30, 30), (0, 60), (90, 60)],
                       [(0, 1), (0, 2), (0, 3), (1, 2), (1, 4), (2, 3), (3, 4)], [(45, 6, 5), (6, 30, 6), (60, 45, 7)])
        row = the_run().row()
        self.assertEqual(scale(1, row), [0, 124] + row)
        self.assertEqual(scale(2, row), [0, 124] + twice.row())
        self.assertEqual(scale(3, row), [0, 124] + thrice.row())

    def test_numbers_of_more_bytes(self):
        # 30 comes to 7680, 0x1E00, and to 15360, 0x3C00; 20 to 1048560, 0x0FFFF0.
        self.assertEqual(scaled_row(256, the_run().row())[4:12], [0, 0x1E, 0, 0, 0, 0x14, 0, 0])
        self.assertEqual(scaled_row(512, the_run().row())[28:36], [0, 0x3C, 0, 0, 0, 0, 0, 0])
        cartoon = framed(16, 20)
        self.assertEqual(scaled_row(52428, cartoon.row())[4:12], [0xC0, 0xCC, 0x0C, 0, 0xF0, 0xFF, 0x0F, 0])

    def test_once_it_is_the_same(self):
        for name, cartoon in cartoons().items():
            with self.subTest(name):
                self.assertEqual(scale(1, cartoon.row()), [0, len(cartoon.row())] + cartoon.row())

    def test_the_stock(self):
        for name, cartoon in cartoons().items():
            row = cartoon.row()
            for k in sorted({2, 3, greatest_k(cartoon)}):
                with self.subTest((name, k)):
                    new = magnified(k, cartoon)
                    told = [0, len(row)] + new.row() if max(new.width, new.height) <= MOST else [-6]
                    self.assertEqual(scale(k, row), told)

    def test_by_chance(self):
        for number, cartoon in enumerate(cartoons_by_chance()):
            for k in (2, 3, 7, 256, greatest_k(cartoon)):
                with self.subTest((number, k)):
                    self.assertEqual(scaled_row(k, cartoon.row()), magnified(k, cartoon).row())

    def test_glass_and_painting_stay(self):
        for kind in ((256, 1), (1, 256), (65535, 0), (0, 65535), (258, 772)):
            cartoon = one_pane().changed(marks=[(8, 9) + kind])
            self.assertEqual(scaled_row(2, cartoon.row()), magnified(2, cartoon).row())
            self.assertEqual(scaled_row(2, cartoon.row())[-4:], cartoon.row()[-4:])

    def test_what_comes_of_it_is_a_cartoon(self):
        for name, cartoon in cartoons().items():
            with self.subTest(name):
                self.assertEqual(judge(scaled_row(greatest_k(cartoon), cartoon.row())), [0])

    def test_what_comes_of_it_is_a_cartoon_to_the_reference(self):
        for name, cartoon in several().items():
            for k in (2, 3, greatest_k(cartoon)):
                if k <= greatest_k(cartoon):
                    with self.subTest((name, k)):
                        self.assertEqual(Reference(scaled_row(k, cartoon.row())).judged(), [0])


class Greatest(unittest.TestCase):
    def assertGreatest(self, cartoon, k):
        row = cartoon.row()
        self.assertEqual(judge(row), [0])
        self.assertEqual(scale(k, row), [0, len(row)] + magnified(k, cartoon).row())
        self.assertEqual(judge(scaled_row(k, row)), [0])
        self.assertEqual(scale(k + 1, row), [-6])

    def test_widths(self):
        # 25 and 33 go into 1,048,575; the others don't.
        for width, k in ((25, 41943), (33, 31775), (31, 33825), (30, 34952), (1000, 1048), (524287, 2), (524288, 1),
                         (349525, 3), (349526, 2), (MOST, 1)):
            self.assertGreatest(framed(width, 16), k)
            self.assertGreatest(framed(width, 24), k)

    def test_heights(self):
        for height, k in ((25, 41943), (33, 31775), (31, 33825), (30, 34952), (1000, 1048), (524287, 2), (524288, 1),
                          (349525, 3), (349526, 2), (MOST, 1)):
            self.assertGreatest(framed(16, height), k)
            self.assertGreatest(framed(24, height), k)

    def test_both(self):
        self.assertGreatest(framed(25, 25), 41943)
        self.assertGreatest(one_pane(), 65535)
        self.assertGreatest(greatest_frame(), 1)
        self.assertGreatest(the_run(), 34952)

    def test_one_side_too_great_is_enough(self):
        self.assertEqual(scale(2, framed(600000, 16).row()), [-6])
        self.assertEqual(scale(2, framed(16, 600000).row()), [-6])

    def test_very_great_k(self):
        for cartoon in (the_run(), one_pane(), framed(20, 16), greatest_frame()):
            for k in (65536, MOST, MOST + 1, 2 ** 31, 2 ** 32 - 1, 2 ** 32, 2 ** 32 + 1, 2 ** 60, 2 ** 63, 2 ** 63 + 1,
                      2 ** 64 - 2, GREATEST):
                self.assertEqual(scale(k, cartoon.row()), [-6])

    def test_sides_that_would_fit_with_fewer_bytes(self):
        # 2 to the power of 28, times 16, is 2 to the power of 32: of that nothing would be left in four bytes.
        for k in (2 ** 28 + 1, 2 ** 28 + 2, 2 ** 60 + 1):
            self.assertEqual(scale(k, one_pane().row()), [-6])


class OneBehindTheOther(unittest.TestCase):
    def test_by_j_and_then_by_k(self):
        for name, cartoon in several().items():
            row = cartoon.row()
            for j in (1, 2, 3, 5):
                for k in (1, 2, 3, 7):
                    if j * k <= greatest_k(cartoon):
                        with self.subTest((name, j, k)):
                            self.assertEqual(scaled_row(k, scaled_row(j, row)), scaled_row(j * k, row))

    def test_by_j_and_then_by_k_large_ones(self):
        for cartoon in (grid(20, 10, 7, True), long_edge()):
            row = cartoon.row()
            self.assertEqual(scaled_row(5, scaled_row(4, row)), scaled_row(20, row))

    def test_up_to_the_greatest(self):
        row = framed(25, 16).row()
        # 41943 is 3 times 11 times 31 times 41.
        for j, k in ((3, 13981), (11, 3813), (31, 1353), (41, 1023), (1023, 41), (41943, 1)):
            self.assertEqual(scaled_row(k, scaled_row(j, row)), scaled_row(41943, row))
            self.assertEqual(scale(k + 1, scaled_row(j, row)), [-6])

    def test_with_turns_and_mirroring(self):
        for cartoon in (the_run(), comb(), bent(), straight_on()):
            row = cartoon.row()
            self.assertEqual(row_behind(flip(scaled_row(3, row))), scaled_row(3, row_behind(flip(row))))
            self.assertEqual(row_behind(turn(1, scaled_row(3, row))), scaled_row(3, row_behind(turn(1, row))))


class Panes(unittest.TestCase):
    def test_a_pane_goes_with_its_mark(self):
        for cartoon in (the_run(), comb(), spiral(), ring(), bent(), straight_on(), fan(), greatest_frame()):
            for k in sorted({1, min(2, greatest_k(cartoon)), greatest_k(cartoon)}):
                drawing = magnified(k, cartoon)
                self.assertEqual(scaled_row(k, cartoon.row()), drawing.row())
                assert_panes_go_along(self, cartoon, drawing, lambda x, y, times=k: (times * x, times * y), k * k)

    def test_what_a_pane_holds_goes_with_it(self):
        row = the_run().row()
        for k in (2, 5):
            new = scaled_row(k, row)
            for x in range(0, 32, 2):
                for y in range(22):
                    self.assertEqual(at(k * x, k * y, new), at(x, y, row))


class Refused(unittest.TestCase):
    def test_0_times(self):
        for name, cartoon in cartoons().items():
            with self.subTest(name):
                self.assertEqual(scale(0, cartoon.row()), [-1])

    def test_0_times_is_looked_at_first(self):
        for row, refusal in REFUSED:
            self.assertEqual(scale(0, row), [-1])

    def test_bytes_that_are_no_cartoon(self):
        for row, refusal in REFUSED:
            for k in (1, 2, 34953, MOST, GREATEST):
                self.assertEqual(scale(k, row), refusal)

    def test_the_largest_rows(self):
        row = nested(200).row()
        row += [0] * (60000 - len(row))
        self.assertEqual([scale(k, row) for k in (0, 1, GREATEST)], [[-1], [-5, 3, 20], [-5, 3, 20]])
        row = crowded().row()
        self.assertEqual([scale(k, row) for k in (0, 1, GREATEST)], [[-1], judge(row), judge(row)])


class Kinds(unittest.TestCase):
    def test_answers(self):
        assert_kinds(self, lambda row: [scale(k, row) for k in (0, 1, 2, GREATEST)])

    def test_the_answer_is_a_row_of_its_own(self):
        row = the_run().row()
        answer = scale(1, row)
        answer[2] = 0
        self.assertEqual(row[0], 0x47)
        self.assertEqual(scale(1, row)[2], 0x47)

    def test_bytes(self):
        for cartoon in (the_run(), greatest_frame(), nested(200)):
            answer = scale(greatest_k(cartoon), cartoon.row())
            self.assertTrue(all(0 <= number <= 255 for number in answer[2:]))


if __name__ == "__main__":
    unittest.main()
