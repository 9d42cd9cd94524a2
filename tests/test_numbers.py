"""The arithmetic below the calls: exact, also where numbers lie very near one another."""

import unittest

import helper
from madelarger.windows import is_below, made_larger, made_smaller, partner


class Order(unittest.TestCase):
    def test_small_numbers_lie_as_decimals_say(self):
        parts = range(-6, 7)
        for m in helper.MS:
            for a in parts:
                for b in parts:
                    for other in ([0, 0], [1, 0], [0, 1], [-2, 1], [3, -1]):
                        expected = helper.below(helper.value(m, a, b), helper.value(m, *other))
                        self.assertIs(is_below(m, [a, b], other), expected, (m, a, b, other))

    def test_number_is_not_below_itself(self):
        for m in helper.MS:
            for number in ([0, 0], [5, -3], [-helper.TOP, helper.TOP]):
                self.assertIs(is_below(m, number, list(number)), False)

    def test_powers_of_the_partner_are_in_order_however_near_zero(self):
        # Far nearer than floating-point numbers of this size could tell apart.
        for m in helper.MS:
            h, g = 0, 1
            even = True
            for count in range(200):
                number = [g, -h]
                self.assertIs(is_below(m, [0, 0], number), even, (m, number))
                self.assertIs(is_below(m, number, [0, 0]), not even, (m, number))
                shifted = [g + 10 ** 40, -h - 10 ** 40]
                self.assertIs(is_below(m, [10 ** 40, -10 ** 40], shifted), even, (m, number))
                h, g = g, m * g + h
                even = not even


class Products(unittest.TestCase):
    def test_made_larger_by_hand(self):
        self.assertEqual(made_larger(1, [1, 0]), [1, 1])
        self.assertEqual(made_larger(2, [1, 0]), [1, 2])
        self.assertEqual(made_larger(3, [0, 1]), [3, 10])
        self.assertEqual(made_larger(4, [-1, 2]), [7, 30])

    def test_made_larger_and_smaller_undo_one_another(self):
        for m in helper.MS:
            for a in range(-5, 6):
                for b in range(-5, 6):
                    self.assertEqual(made_larger(m, [a, b]), helper.times_square(m, [a, b]))
                    self.assertEqual(made_smaller(m, [a, b]), helper.over_square(m, [a, b]))
                    self.assertEqual(made_smaller(m, made_larger(m, [a, b])), [a, b])

    def test_partner(self):
        for m in helper.MS:
            self.assertEqual(partner(m, [0, 1]), [m, -1])
            self.assertEqual(partner(m, [7, 0]), [7, 0])
            self.assertEqual(partner(m, partner(m, [3, -8])), [3, -8])


if __name__ == "__main__":
    unittest.main()
