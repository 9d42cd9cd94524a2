"""large(m, x, z): promises 1 and 2 as far as they speak of it."""

import unittest

import helper
from madelarger.windows import large


class Ordinary(unittest.TestCase):
    def test_points(self):
        cases = [
            (1, [0, 0, 1, 0], [1, 1], [0, 2, 3]),
            (1, [-1, 0, 0, 0], [0, 1], [0, 1, 2]),
            (1, [-1, 0, 1, 0], [0, -1], [0, -1, -2]),
            (2, [-2, 0, 3, 0], [2, 0], [0, 2, 4]),
            (2, [0, -1, 0, 1], [5, 12], [0, 29, 70]),
            (3, [-5, 0, 5, 0], [-4, -1], [0, -7, -22]),
            (3, [0, 0, 1, 0], [1, 3], [0, 10, 33]),
            (4, [-8, 0, 9, 0], [8, 1], [0, 12, 49]),
            (4, [-8, 0, 9, 0], [-1, 2], [0, 7, 30]),
        ]
        for m, x, z, answer in cases:
            self.assertEqual(large(m, x, z), answer, (m, x, z))

    def test_numbers_that_are_no_points(self):
        cases = [
            (1, [0, 0, 1, 0], [0, 1]), (1, [0, 0, 1, 0], [2, 0]), (1, [-1, 0, 1, 0], [-2, 1]),
            (2, [-2, 0, 3, 0], [4, 1]), (2, [0, -1, 0, 1], [3, -1]),
            (3, [-5, 0, 5, 0], [6, 1]), (3, [0, 0, 1, 0], [0, 3]),
            (4, [-8, 0, 9, 0], [10, 1]), (4, [-8, 0, 9, 0], [-8, 1]),
        ]
        for m, x, z in cases:
            self.assertEqual(large(m, x, z), [-2], (m, x, z))

    def test_windows_that_do_not_keep_their_points(self):
        cases = [
            (1, [1, 0, 2, 0], [1, 0]), (1, [-2, 0, -1, 0], [-2, 0]), (2, [1, 0, 6, 0], [3, 0]),
            (3, [2, 0, 3, 0], [2, 0]), (4, [-9, 0, -4, 0], [-5, 0]),
        ]
        for m, x, z in cases:
            self.assertEqual(large(m, x, z), [-33], (m, x, z))

    def test_small_windows_and_numbers(self):
        parts = range(-4, 5)
        for m in helper.MS:
            for x, kept in helper.small_windows(m, 1):
                for z in [[a, b] for a in parts for b in parts]:
                    self.assertEqual(large(m, x, z), helper.expected_large(m, x, z), (m, x, z))

    def test_answer_is_a_list_of_whole_numbers(self):
        for z, count in (([1, 1], 3), ([0, 1], 1), ([], 1)):
            answer = large(1, [0, 0, 1, 0], z)
            self.assertIs(type(answer), list)
            self.assertEqual([type(number) for number in answer], [int] * count)


class WhatHolds(unittest.TestCase):
    def points(self, m, x, most):
        parts = range(-most, most + 1)
        return [[a, b] for a in parts for b in parts if helper.in_window(m, x, [a, b])]

    def windows(self, m):
        return [x for x, kept in helper.small_windows(m, 1) if kept == [1]]

    def test_point_made_larger_is_a_point(self):
        for m in helper.MS:
            for x in self.windows(m):
                for z in self.points(m, x, 8):
                    answer = large(m, x, z)
                    self.assertEqual(answer[0], 0, (m, x, z))
                    self.assertTrue(helper.in_window(m, x, answer[1:]), (m, x, z))
                    self.assertEqual(large(m, x, answer[1:])[0], 0, (m, x, z))

    def test_points_of_the_smaller_window_are_just_those_that_come_so(self):
        for m in helper.MS:
            for x in self.windows(m):
                smaller = helper.smaller_window(m, x)
                for z in self.points(m, x, 12):
                    source = helper.over_square(m, z)
                    expected = [0] + z if helper.in_window(m, smaller, z) else [-2]
                    self.assertEqual(large(m, x, source), expected, (m, x, z))


class Corners(unittest.TestCase):
    def test_zero(self):
        for m in helper.MS:
            self.assertEqual(large(m, [0, 0, 1, 0], [0, 0]), [0, 0, 0])
            self.assertEqual(large(m, [-1, 0, 1, 0], [0, 0]), [0, 0, 0])
            self.assertEqual(large(m, [-1, 0, 0, 0], [0, 0]), [-2])
            self.assertEqual(large(m, [1, 0, 2, 0], [0, 0]), [-33])

    def test_window_from_zero_on(self):
        for m in helper.MS:
            tiny = helper.tiny(m)
            inside = helper.partner_of(m, tiny)
            outside = helper.minus([0, 0], inside)
            self.assertEqual(large(m, [0, 0, 1, 0], inside), [0] + helper.times_square(m, inside))
            self.assertEqual(large(m, [0, 0, 1, 0], outside), [-2])

    def test_window_up_to_zero(self):
        for m in helper.MS:
            tiny = helper.tiny(m)
            outside = helper.partner_of(m, tiny)
            inside = helper.minus([0, 0], outside)
            self.assertEqual(large(m, [-1, 0, 0, 0], inside), [0] + helper.times_square(m, inside))
            self.assertEqual(large(m, [-1, 0, 0, 0], outside), [-2])

    def test_window_that_keeps_nothing(self):
        for m in helper.MS:
            tiny = helper.tiny(m, helper.TOP - 2)
            self.assertEqual(large(m, tiny + [2, 0], [1, 0]), [-33])
            self.assertEqual(large(m, [-2, 0] + helper.minus([0, 0], tiny), [-1, 0]), [-33])

    def test_partner_just_at_u_and_just_at_v(self):
        for m in helper.MS:
            for x in ([-1, 0, 0, 1], [0, -1, 1, 0], [1, -1, 1, 0], [0, 0, 1, 0], [-1, 0, 0, 0]):
                at_u = helper.partner_of(m, x[:2])
                at_v = helper.partner_of(m, x[2:])
                if helper.expected_keeps(m, x) == [1]:
                    self.assertEqual(large(m, x, at_u), [0] + helper.times_square(m, at_u), (m, x))
                    self.assertEqual(large(m, x, at_v), [-2], (m, x))

    def test_partner_very_near_u_and_v(self):
        for m in helper.MS:
            tiny = helper.tiny(m, helper.TOP // 50)
            for x in ([-1, 0, 1, 0], [0, -1, 1, 0], [0, 0, 0, 1]):
                for place in (x[:2], x[2:]):
                    for near in (helper.minus(place, tiny), place, helper.plus(place, tiny)):
                        z = helper.partner_of(m, near)
                        self.assertLessEqual(max(z), helper.TOP)
                        self.assertEqual(large(m, x, z), helper.expected_large(m, x, z), (m, x, z))
                at_u = helper.partner_of(m, helper.minus(x[:2], tiny))
                at_v = helper.partner_of(m, helper.minus(x[2:], tiny))
                if helper.expected_keeps(m, x) == [1]:
                    self.assertEqual(large(m, x, at_u), [-2], (m, x))
                    self.assertEqual(large(m, x, at_v)[0], 0, (m, x))

    def test_partner_just_at_a_u_of_large_whole_numbers(self):
        for m in helper.MS:
            tiny = helper.tiny(m, helper.TOP // 5)
            u = helper.minus([0, 0], tiny)
            for x in (u + [1, 0], u + [2, 0]):
                at_u = helper.partner_of(m, u)
                self.assertEqual(large(m, x, at_u), [0] + helper.times_square(m, at_u), (m, x))
                self.assertEqual(large(m, x, [0, 0]), [0, 0, 0])
            x = [-1, 0] + tiny
            self.assertEqual(large(m, x, helper.partner_of(m, tiny)), [-2])
            self.assertEqual(large(m, x, [0, 0]), [0, 0, 0])

    def test_length_near_w_w(self):
        for m in helper.MS:
            tiny = helper.tiny(m, helper.TOP - 20)
            self.assertEqual(large(m, [0, 0] + helper.minus([1, m], tiny), [1, 0]), [0, 1, m])
            self.assertEqual(large(m, [0, 0, 1, m], [1, 0]), [-22])
            self.assertEqual(large(m, [0, 0] + helper.plus([1, m], tiny), [1, 0]), [-22])

    def test_length_near_one(self):
        for m in helper.MS:
            tiny = helper.tiny(m, helper.TOP - 20)
            self.assertEqual(large(m, [0, 0, 1, 0], [0, 0]), [0, 0, 0])
            self.assertEqual(large(m, [0, 0] + helper.plus([1, 0], tiny), [1, 0]), [0, 1, m])
            self.assertEqual(large(m, [0, 0] + helper.minus([1, 0], tiny), [0, 0]), [-22])

    def test_whole_numbers_of_z_at_a_million_and_one_beyond(self):
        for m in helper.MS:
            # A million w, or as many whole ones, and as much of the other as brings the partner near 0.
            a = int(helper.TOP / helper.ROOTS[m])
            x = [-1, 0, 1, 0]
            for sign in (1, -1):
                z = [sign * a, sign * helper.TOP]
                self.assertEqual(large(m, x, z), [0] + helper.times_square(m, z), (m, z))
                self.assertEqual(large(m, x, [sign * a, sign * (helper.TOP + 1)]), [-22])
                self.assertEqual(large(m, x, [sign * helper.TOP, 0]), [-2])
                self.assertEqual(large(m, x, [sign * (helper.TOP + 1), 0]), [-22])
                self.assertEqual(large(m, x, [0, sign * helper.TOP]), [-2])
                self.assertEqual(large(m, x, [0, sign * (helper.TOP + 1)]), [-22])

    def test_whole_numbers_of_a_window_at_a_million_and_one_beyond(self):
        over = helper.TOP + 1
        for m in helper.MS:
            b = int(helper.TOP / helper.ROOTS[m])
            z = [1, m]
            back = [-1, -m]
            self.assertEqual(large(m, [-helper.TOP, b, 1, 0], z), [0] + helper.times_square(m, z))
            self.assertEqual(large(m, [-1, 0, helper.TOP, -b], back), [0] + helper.times_square(m, back))
            b = int(over / helper.ROOTS[m])
            self.assertEqual(large(m, [-over, b, 1, 0], z), [-22])
            self.assertEqual(large(m, [-1, 0, over, -b], back), [-22])
            self.assertEqual(large(m, [0, helper.TOP - 1, 0, helper.TOP], [0, 0]), [-33])
            self.assertEqual(large(m, [0, helper.TOP, 0, over], [0, 0]), [-22])


class Wrong(unittest.TestCase):
    def test_m_not_from_1_to_4(self):
        for m in helper.WRONG_MS:
            for x in ([0, 0, 1, 0], [1, 0, 2, 0], []):
                for z in ([0, 0], [9, 9], []):
                    self.assertEqual(large(m, x, z), [-22], (m, x, z))

    def test_x_of_every_length(self):
        for m in helper.MS:
            for count in range(9):
                x = [0, 0, 1, 0, 0, 0, 1, 0][:count]
                self.assertEqual(large(m, x, [0, 0]), [0, 0, 0] if count == 4 else [-22], (m, x))

    def test_z_of_every_length(self):
        for m in helper.MS:
            for count in range(9):
                z = [0] * count
                self.assertEqual(large(m, [0, 0, 1, 0], z), [0, 0, 0] if count == 2 else [-22], (m, z))

    def test_whole_numbers_far_out(self):
        far = helper.FARTHEST
        for m in helper.MS:
            for number in (far, -far):
                self.assertEqual(large(m, [0, 0, 1, 0], [number, 0]), [-22])
                self.assertEqual(large(m, [0, 0, 1, 0], [0, number]), [-22])
                self.assertEqual(large(m, [0, 0, 1, 0], [number] * 8), [-22])
                for place in range(4):
                    x = [0, 0, 1, 0]
                    x[place] = number
                    self.assertEqual(large(m, x, [0, 0]), [-22], (m, x))
            self.assertEqual(large(m, [far] * 8, [-far] * 8), [-22])


class Order(unittest.TestCase):
    def test_wrong_input_ahead_of_all(self):
        for m in helper.MS:
            for z in ([], [0], [0, 0, 0], [helper.TOP + 1, 0], [0, -helper.FARTHEST]):
                self.assertEqual(large(m, [1, 0, 2, 0], z), [-22], (m, z))
                self.assertEqual(large(m, [-2, 0, -1, 0], z), [-22], (m, z))
            for x in ([1, 0, 1, 0], [1, 0, 1, m + 1], [helper.TOP, 0, helper.TOP + 1, 0]):
                self.assertEqual(large(m, x, [0, 0]), [-22], (m, x))
        self.assertEqual(large(5, [1, 0, 2, 0], [0, 0]), [-22])
        self.assertEqual(large(0, [0, 0, 1, 0], [5, 0]), [-22])

    def test_window_that_does_not_keep_ahead_of_no_point(self):
        for m in helper.MS:
            self.assertEqual(large(m, [1, 0, 2, 0], [0, 0]), [-33])
            self.assertEqual(large(m, [1, 0, 2, 0], [helper.TOP, helper.TOP]), [-33])
            self.assertEqual(large(m, [-2, 0, -1, 0], [5, 0]), [-33])

    def test_no_point_last(self):
        for m in helper.MS:
            self.assertEqual(large(m, [0, 0, 1, 0], [helper.TOP, helper.TOP]), [-2])


if __name__ == "__main__":
    unittest.main()
