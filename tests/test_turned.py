"""The call turned: the turn of three points."""

import random
import unittest
from fractions import Fraction

from glasscartoons.plans import turned

MOST = 18446744073709551615
FURTHEST = 36893488147419103231


def slope_turn(p, q, r):
    """1, -1 or 0 for a turn to the left, to the right or none, told by how high r lies beside the way through p, q."""
    if q[0] == p[0]:
        beyond = (p[0] - r[0]) * (1 if q[1] > p[1] else -1 if q[1] < p[1] else 0)
    else:
        beyond = (r[1] - p[1] - Fraction(q[1] - p[1], q[0] - p[0]) * (r[0] - p[0])) * (1 if q[0] > p[0] else -1)
    return (beyond > 0) - (beyond < 0)


class Turns(unittest.TestCase):
    def test_to_the_left(self):
        self.assertEqual(turned(0, 0, 1, 0, 1, 1), [0, 1])
        self.assertEqual(turned(0, 0, 3, 0, 5, 7), [0, 21])
        self.assertEqual(turned(0, 0, 30, 0, 10, 10), [0, 300])
        self.assertEqual(turned(-5, -5, -4, -5, -4, -4), [0, 1])

    def test_to_the_right(self):
        self.assertEqual(turned(0, 0, 0, 1, 1, 1), [0, -1])
        self.assertEqual(turned(0, 0, 10, 10, 30, 0), [0, -300])
        self.assertEqual(turned(2, 3, 7, 5, 11, -4), [0, -53])

    def test_in_a_row(self):
        self.assertEqual(turned(0, 0, 1, 1, 2, 2), [0, 0])
        self.assertEqual(turned(0, 0, 2, 2, 1, 1), [0, 0])
        self.assertEqual(turned(-3, 7, 1, 5, 9, 1), [0, 0])
        self.assertEqual(turned(4, -9, 4, 0, 4, 100), [0, 0])
        self.assertEqual(turned(-8, 6, 0, 6, MOST, 6), [0, 0])

    def test_points_that_are_the_same(self):
        for p, q in (((0, 0), (5, 7)), ((-1, 2), (3, -4)), ((MOST, -MOST), (-MOST, 1))):
            for three in (p + p + q, p + q + q, p + q + p, p + p + p):
                self.assertEqual(turned(*three), [0, 0])

    def test_each_number_counts(self):
        # The turn is 1 * 7 - 4 * 3, with q - p (1, 4) and r - q (3, 7); then each number is more by one in its turn.
        three = [10, 20, 11, 24, 14, 31]
        self.assertEqual(turned(*three), [0, -5])
        found = [turned(*(number + (j == k) for j, number in enumerate(three)))[1] for k in range(6)]
        self.assertEqual(found, [-5 - 7, -5 + 3, -5 + 7 + 4, -5 - 1 - 3, -5 - 4, -5 + 1])

    def test_by_chance(self):
        found = {}
        for seed in range(400):
            chance = random.Random(seed)
            size = chance.choice((2, 5, 1000, 2 ** 32, MOST))
            p, q, r = [(chance.randint(-size, size), chance.randint(-size, size)) for k in range(3)]
            answer = turned(*(p + q + r))
            self.assertEqual(len(answer), 2)
            sign = (answer[1] > 0) - (answer[1] < 0)
            self.assertEqual((answer[0], sign), (0, slope_turn(p, q, r)))
            found[sign] = found.get(sign, 0) + 1
            # From whichever of the three one starts, the turn is the same, and the other way round it is the contrary.
            self.assertEqual(turned(*(q + r + p)), answer)
            self.assertEqual(turned(*(r + q + p)), [0, -answer[1]])
        self.assertTrue(min(found.values()) > 10 and len(found) == 3, found)


class Greatest(unittest.TestCase):
    def test_the_greatest_answers(self):
        # Four times the square of 18446744073709551615.
        self.assertEqual(turned(-MOST, -MOST, MOST, -MOST, MOST, MOST), [0, 1361129467683753853705924477137396432900])
        self.assertEqual(turned(MOST, MOST, MOST, -MOST, -MOST, -MOST), [0, -1361129467683753853705924477137396432900])
        self.assertEqual(turned(-MOST, MOST, -MOST, -MOST, MOST, MOST), [0, 1361129467683753853705924477137396432900])

    def test_the_last_digit(self):
        self.assertEqual(turned(0, 0, MOST, 0, MOST, MOST), [0, 340282366920938463426481119284349108225])
        self.assertEqual(turned(0, 0, MOST, 0, MOST, MOST - 1), [0, 340282366920938463408034375210639556610])
        self.assertEqual(turned(0, 0, MOST, MOST - 1, MOST - 1, MOST - 2), [0, -1])
        self.assertEqual(turned(0, 0, MOST - 1, MOST - 2, MOST, MOST - 1), [0, 1])
        self.assertEqual(turned(-MOST, -MOST, 0, 0, MOST, MOST), [0, 0])
        self.assertEqual(turned(-MOST, -MOST, 0, 0, MOST, MOST - 1), [0, -18446744073709551615])

    def test_each_number_at_its_ends(self):
        for k in range(6):
            three = [1, 2, 3, 5, 8, 13]
            for number in (MOST, -MOST):
                three[k] = number
                p, q, r = three[:2], three[2:4], three[4:]
                expected = p[0] * q[1] - p[1] * q[0] + q[0] * r[1] - q[1] * r[0] + r[0] * p[1] - r[1] * p[0]
                self.assertEqual(turned(*three), [0, expected])


class Refused(unittest.TestCase):
    def test_each_number_beyond_its_ends(self):
        for k in range(6):
            for others in ([1, 2, 3, 5, 8, 13], [0] * 6, [MOST] * 6, [-MOST] * 6):
                for number in (MOST + 1, -MOST - 1, MOST + 2, -MOST - 2, FURTHEST, -FURTHEST):
                    three = list(others)
                    three[k] = number
                    self.assertEqual(turned(*three), [-1])

    def test_several_beyond_their_ends(self):
        self.assertEqual(turned(FURTHEST, FURTHEST, FURTHEST, FURTHEST, FURTHEST, FURTHEST), [-1])
        self.assertEqual(turned(-FURTHEST, 0, FURTHEST, 0, 0, MOST + 1), [-1])
        self.assertEqual(turned(MOST + 1, MOST + 1, MOST + 1, MOST + 1, MOST + 1, MOST + 1), [-1])


class Kinds(unittest.TestCase):
    def test_answers(self):
        for three in ((0, 0, 1, 0, 1, 1), (1, 1, 1, 1, 1, 1), (0, 0, 0, MOST, MOST, 0), (MOST + 1, 0, 0, 0, 0, 0)):
            answer = turned(*three)
            self.assertIs(type(answer), list)
            self.assertEqual({type(number) for number in answer}, {int})
            answer[0] = 7
            self.assertNotEqual(turned(*three), answer)


if __name__ == "__main__":
    unittest.main()
