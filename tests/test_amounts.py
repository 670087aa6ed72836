"""Points 2 and 5: numbers and their sums, differences, products and order."""

import unittest
from fractions import Fraction

from selfsight.amounts import amount, below, minus, plus, times

GREAT = 10 ** 40
TOPS = list(range(-13, 14)) + [-GREAT, GREAT, GREAT + 1, 6 * GREAT + 3]
BOTTOMS = list(range(1, 13)) + [999, 1000, GREAT, 3 * GREAT, GREAT - 1]


def told(fraction):
    return (fraction.numerator, fraction.denominator)


def some_numbers():
    few_tops = [-GREAT, -12, -7, -1, 0, 1, 5, 12, 1000, GREAT + 1]
    few_bottoms = [1, 2, 6, 7, 1000, 3 * GREAT]
    return sorted({Fraction(top, bottom) for top in few_tops for bottom in few_bottoms})


class AmountTest(unittest.TestCase):
    def assert_number(self, number, expected):
        self.assertEqual(number, expected)
        self.assertIs(type(number), tuple)
        self.assertEqual([type(part) for part in number], [int, int])

    def test_written_out(self):
        self.assert_number(amount(1, 2), (1, 2))
        self.assert_number(amount(6, 4), (3, 2))
        self.assert_number(amount(-6, 4), (-3, 2))
        self.assert_number(amount(-1, 2), (-1, 2))
        self.assert_number(amount(8, 4), (2, 1))
        self.assert_number(amount(-8, 4), (-2, 1))
        self.assert_number(amount(7, 1), (7, 1))

    def test_nought_has_the_bottom_one(self):
        for bottom in (1, 2, 12, GREAT):
            self.assert_number(amount(0, bottom), (0, 1))

    def test_great_tops_and_bottoms(self):
        self.assert_number(amount(6 * GREAT, 4 * GREAT), (3, 2))
        self.assert_number(amount(-GREAT, GREAT + 1), (-GREAT, GREAT + 1))

    def test_all_in_lowest_terms(self):
        for top in TOPS:
            for bottom in BOTTOMS:
                self.assert_number(amount(top, bottom), told(Fraction(top, bottom)))

    def test_sum_difference_product_written_out(self):
        self.assert_number(plus((1, 6), (1, 3)), (1, 2))
        self.assert_number(plus((1, 2), (-1, 2)), (0, 1))
        self.assert_number(minus((1, 6), (2, 3)), (-1, 2))
        self.assert_number(minus((5, 7), (5, 7)), (0, 1))
        self.assert_number(times((2, 3), (-3, 4)), (-1, 2))
        self.assert_number(times((0, 1), (-3, 4)), (0, 1))

    def test_sum_difference_product_of_many(self):
        for one in some_numbers():
            for other in some_numbers():
                self.assert_number(plus(told(one), told(other)), told(one + other))
                self.assert_number(minus(told(one), told(other)), told(one - other))
                self.assert_number(times(told(one), told(other)), told(one * other))

    def test_below_written_out(self):
        self.assertIs(below((1, 3), (1, 2)), True)
        self.assertIs(below((1, 2), (1, 3)), False)
        self.assertIs(below((1, 2), (1, 2)), False)
        self.assertIs(below((-1, 2), (-1, 3)), True)
        self.assertIs(below((-1, 3), (-1, 2)), False)
        self.assertIs(below((-1, 2), (0, 1)), True)
        self.assertIs(below((0, 1), (-1, 2)), False)
        self.assertIs(below((0, 1), (0, 1)), False)

    def test_below_tells_neighbours_apart(self):
        less = (GREAT - 1, GREAT)
        more = (GREAT, GREAT + 1)
        self.assertIs(below(less, more), True)
        self.assertIs(below(more, less), False)

    def test_below_of_many(self):
        for one in some_numbers():
            for other in some_numbers():
                self.assertIs(below(told(one), told(other)), one < other)


if __name__ == "__main__":
    unittest.main()
