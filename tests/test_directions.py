"""Point 6: the direction of a step, and the order of directions."""

import unittest
from fractions import Fraction
from functools import cmp_to_key
from math import gcd

from selfsight.directions import direction, in_turn


def told(fraction):
    return (fraction.numerator, fraction.denominator)


def all_directions(most):
    parts = range(-most, most + 1)
    return [(p, q) for p in parts for q in parts if gcd(p, q) == 1]


def turn_order(one, other):
    # Written otherwise than the program does it: by halves of the turn, and by the cross product.
    halves = [0 if (q > 0 or (q == 0 and p > 0)) else 1 for p, q in (one, other)]
    if halves[0] != halves[1]:
        return halves[0] - halves[1]
    return one[1] * other[0] - one[0] * other[1]


def shuffled(things):
    # A fixed disorder: every 7th or 11th, whichever has no divisor in common with the length.
    stride = next(s for s in (7, 11, 13, 17, 19) if gcd(s, len(things)) == 1)
    return [things[k * stride % len(things)] for k in range(len(things))]


class DirectionTest(unittest.TestCase):
    def assert_direction(self, step, expected):
        found = direction(step)
        self.assertEqual(found, expected)
        self.assertIs(type(found), tuple)
        self.assertEqual([type(part) for part in found], [int, int])

    def test_whole_parts(self):
        self.assert_direction(((4, 1), (6, 1)), (2, 3))
        self.assert_direction(((-4, 1), (6, 1)), (-2, 3))
        self.assert_direction(((4, 1), (-6, 1)), (2, -3))
        self.assert_direction(((-4, 1), (-6, 1)), (-2, -3))
        self.assert_direction(((5, 1), (7, 1)), (5, 7))

    def test_broken_parts(self):
        self.assert_direction(((1, 2), (1, 3)), (3, 2))
        self.assert_direction(((-1, 2), (3, 4)), (-2, 3))
        self.assert_direction(((5, 6), (-5, 6)), (1, -1))
        self.assert_direction(((3, 1), (1, 2)), (6, 1))
        self.assert_direction(((1, 2), (3, 1)), (1, 6))

    def test_one_part_nought(self):
        self.assert_direction(((3, 7), (0, 1)), (1, 0))
        self.assert_direction(((0, 1), (12, 1)), (0, 1))
        self.assert_direction(((-5, 1), (0, 1)), (-1, 0))
        self.assert_direction(((0, 1), (-2, 9)), (0, -1))

    def test_many_steps(self):
        parts = sorted({Fraction(top, bottom) for top in range(-7, 8) for bottom in (1, 2, 3, 4, 1000)})
        for dx in parts:
            for dy in parts:
                if dx == 0 and dy == 0:
                    continue
                p, q = direction((told(dx), told(dy)))
                self.assertEqual(gcd(p, q), 1, (dx, dy))
                self.assertEqual(p * dy, q * dx, (dx, dy))
                self.assertGreater(p * dx + q * dy, 0, (dx, dy))

    def test_great_bottoms(self):
        bottom = 10 ** 12 - 1
        self.assert_direction(((4000 * bottom - 1, bottom), (-1, bottom)), (4000 * bottom - 1, -1))


class InTurnTest(unittest.TestCase):
    ROUND = [(1, 0), (2, 1), (1, 1), (1, 2), (0, 1), (-1, 2), (-1, 1), (-2, 1),
             (-1, 0), (-2, -1), (-1, -1), (-1, -2), (0, -1), (1, -2), (1, -1), (2, -1)]

    def test_once_round_from_any_order(self):
        for start in range(len(self.ROUND)):
            begun_elsewhere = self.ROUND[start:] + self.ROUND[:start]
            self.assertEqual(in_turn(begun_elsewhere), self.ROUND)
            self.assertEqual(in_turn(begun_elsewhere[::-1]), self.ROUND)

    def test_many_directions(self):
        directions = all_directions(12)
        expected = sorted(directions, key=cmp_to_key(turn_order))
        self.assertEqual(expected[0], (1, 0))
        self.assertEqual(in_turn(shuffled(directions)), expected)

    def test_each_pair(self):
        directions = in_turn(all_directions(4))
        for later, one in enumerate(directions):
            for other in directions[:later]:
                self.assertEqual(in_turn([one, other]), [other, one])

    def test_neighbours_with_great_parts(self):
        most = 10 ** 6 - 1
        rising = [(most, 1), (most - 1, 1), (most, most - 2), (most - 1, most - 2), (most, most - 1),
                  (most - 1, most), (most - 2, most - 1), (1, most - 1), (1, most)]
        expected = rising + [(-q, p) for p, q in rising] + [(-p, -q) for p, q in rising] + [(q, -p) for p, q in rising]
        self.assertEqual(expected, sorted(expected, key=cmp_to_key(turn_order)))
        self.assertEqual(in_turn(shuffled(expected)), expected)

    def test_each_once(self):
        self.assertEqual(in_turn([(0, -1), (1, 0), (0, -1), (1, 0), (1, 0)]), [(1, 0), (0, -1)])
        self.assertEqual(in_turn(self.ROUND * 3), self.ROUND)

    def test_none_and_one(self):
        self.assertEqual(in_turn([]), [])
        for way in self.ROUND:
            self.assertEqual(in_turn([way]), [way])

    def test_what_is_handed_in_stays(self):
        handed = [(0, 1), (1, 0), (0, 1)]
        told_list = in_turn(handed)
        self.assertEqual(handed, [(0, 1), (1, 0), (0, 1)])
        told_list.append((5, 1))
        self.assertEqual(handed, [(0, 1), (1, 0), (0, 1)])

    def test_what_is_told_is_the_askers(self):
        for handed in ([], [(1, 0)], [(1, 0), (0, 1)], [(0, 1), (1, 0)]):
            first = in_turn(handed)
            kept = list(first)
            self.assertIs(type(first), list)
            self.assertIsNot(first, handed)
            first.append((-1, 0))
            first.reverse()
            self.assertEqual(in_turn(handed), kept)


if __name__ == "__main__":
    unittest.main()
