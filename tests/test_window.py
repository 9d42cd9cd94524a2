"""window(m, x): promises 1 and 2 as far as they speak of it."""

import unittest

import helper
from madelarger.windows import keeps, window


class Ordinary(unittest.TestCase):
    def test_windows_that_keep_their_points(self):
        cases = [
            (1, [0, 0, 1, 0], [0, 0, 0, 2, -1]), (1, [-1, 0, 1, 0], [0, -2, 1, 2, -1]),
            (1, [1, -1, 0, 1], [0, 3, -2, -1, 1]), (1, [0, -1, 0, 0], [0, 1, -1, 0, 0]),
            (2, [-1, 0, 0, 1], [0, -5, 2, -2, 1]), (2, [-2, 0, 3, 0], [0, -10, 4, 15, -6]),
            (3, [-1, 0, 1, 1], [0, -10, 3, 7, -2]), (3, [-1, 0, -1, 3], [0, -10, 3, -19, 6]),
            (4, [-1, 0, 0, 1], [0, -17, 4, -4, 1]), (4, [0, -2, 0, 2], [0, 8, -2, -8, 2]),
        ]
        for m, x, answer in cases:
            self.assertEqual(window(m, x), answer, (m, x))
            self.assertEqual(keeps(m, x), [1], (m, x))

    def test_windows_that_do_not(self):
        cases = [
            (1, [1, 0, 2, 0], [0, 2, -1, 4, -2]), (1, [-2, 0, -1, 0], [0, -4, 2, -2, 1]),
            (2, [1, 0, 6, 0], [0, 5, -2, 30, -12]), (2, [0, 1, 1, 1], [0, -2, 1, 3, -1]),
            (3, [2, 0, 3, 0], [0, 20, -6, 30, -9]), (4, [-9, 0, -4, 0], [0, -153, 36, -68, 16]),
        ]
        for m, x, answer in cases:
            self.assertEqual(window(m, x), answer, (m, x))
            self.assertEqual(keeps(m, x), [0], (m, x))

    def test_all_small_whole_numbers(self):
        parts = range(-3, 4)
        for m in helper.MS:
            for x in [[a, b, c, d] for a in parts for b in parts for c in parts for d in parts]:
                self.assertEqual(window(m, x), helper.expected_window(m, x), (m, x))

    def test_windows_of_all_lengths_and_of_large_whole_numbers(self):
        for m in helper.MS:
            for x in helper.kept_windows(m) + helper.far_windows(m):
                self.assertEqual(window(m, x), helper.expected_window(m, x), (m, x))

    def test_answer_is_a_list_of_whole_numbers(self):
        for x, count in (([0, 0, 1, 0], 5), ([1, 0, 2, 0], 5), ([0, 0, 0, 0], 1), ([], 1)):
            answer = window(1, x)
            self.assertIs(type(answer), list)
            self.assertEqual([type(number) for number in answer], [int] * count)


class WhatHolds(unittest.TestCase):
    def windows(self, m):
        small = [x for x, kept in helper.small_windows(m, 2)]
        return small + helper.kept_windows(m) + helper.far_windows(m)

    def test_ends_made_larger_are_the_ends_of_the_window(self):
        for m in helper.MS:
            for x in self.windows(m):
                answer = window(m, x)
                self.assertEqual((len(answer), answer[0]), (5, 0), (m, x))
                ends = helper.times_square(m, answer[1:3]) + helper.times_square(m, answer[3:])
                self.assertEqual(ends, x, (m, x))

    def test_ends_lie_where_decimals_say(self):
        for m in helper.MS:
            for x in self.windows(m):
                answer = window(m, x)
                for end, smaller in ((x[:2], answer[1:3]), (x[2:], answer[3:])):
                    apart = helper.value(m, *end) / helper.SQUARES[m] - helper.value(m, *smaller)
                    self.assertLess(abs(apart), helper.SAME, (m, x))

    def test_lies_within_the_window_just_where_this_keeps_its_points(self):
        for m in helper.MS:
            found = set()
            for x in self.windows(m):
                answer = window(m, x)
                least = helper.below(helper.value(m, *answer[1:3]), helper.value(m, *x[:2]))
                most = helper.below(helper.value(m, *x[2:]), helper.value(m, *answer[3:]))
                self.assertEqual(keeps(m, x), [0] if least or most else [1], (m, x))
                found.add((least, most))
            # A window can't lie both wholly beyond 0 and wholly below it.
            self.assertEqual(found, {(False, False), (True, False), (False, True)}, m)


class Corners(unittest.TestCase):
    def test_window_from_zero_on(self):
        for m in helper.MS:
            self.assertEqual(window(m, [0, 0, 1, 0]), [0, 0, 0, m * m + 1, -m])
            self.assertEqual(window(m, [0, 0, 0, 1]), [0, 0, 0, -m, 1])

    def test_window_up_to_zero(self):
        for m in helper.MS:
            self.assertEqual(window(m, [-1, 0, 0, 0]), [0, -m * m - 1, m, 0, 0])
            self.assertEqual(window(m, [0, -1, 0, 0]), [0, m, -1, 0, 0])

    def test_window_that_keeps_nothing(self):
        for m in helper.MS:
            tiny = helper.tiny(m, helper.TOP - 2)
            ahead = helper.minus([0, 0], tiny)
            for x in (tiny + [2, 0], [-2, 0] + ahead, [1, 0, 2, 0], [-2, 0, -1, 0]):
                self.assertEqual(keeps(m, x), [0], (m, x))
                self.assertEqual(window(m, x), [0] + helper.smaller_window(m, x), (m, x))

    def test_length_near_one(self):
        for m in helper.MS:
            tiny = helper.tiny(m, helper.TOP - 20)
            for u in ([0, 0], [-1, 0], [3, 0], [-1, -1]):
                one = helper.plus(u, [1, 0])
                longer = u + helper.plus(one, tiny)
                self.assertEqual(window(m, u + one), [0] + helper.smaller_window(m, u + one), (m, u))
                self.assertEqual(window(m, longer), [0] + helper.smaller_window(m, longer), (m, u))
                self.assertEqual(window(m, u + helper.minus(one, tiny)), [-22], (m, u))

    def test_length_near_w_w(self):
        for m in helper.MS:
            tiny = helper.tiny(m, helper.TOP - 20)
            for u in ([0, 0], [-1, 0], [3, 0], [-1, -1]):
                most = helper.plus(u, [1, m])
                shorter = u + helper.minus(most, tiny)
                self.assertEqual(window(m, shorter), [0] + helper.smaller_window(m, shorter), (m, u))
                self.assertEqual(window(m, u + most), [-22], (m, u))
                self.assertEqual(window(m, u + helper.plus(most, tiny)), [-22], (m, u))

    def test_whole_numbers_at_a_million_and_one_beyond(self):
        top = helper.TOP
        for m in helper.MS:
            for x in ([top - 1, 0, top, 0], [0, top - 1, 0, top], [top, -top, top, 1 - top]):
                back = helper.minus([0, 0], x[2:]) + helper.minus([0, 0], x[:2])
                for told in (x, back):
                    self.assertEqual(window(m, told), [0] + helper.smaller_window(m, told), (m, told))
            for x in ([top, 0, top + 1, 0], [0, top, 0, top + 1], [top + 1, 0, top + 2, 0], [0, top + 1, 1, top + 1]):
                back = helper.minus([0, 0], x[2:]) + helper.minus([0, 0], x[:2])
                for told in (x, back):
                    self.assertEqual(window(m, told), [-22], (m, told))

    def test_windows_about_zero_at_a_million_and_one_beyond(self):
        for m in helper.MS:
            for most in (helper.TOP, helper.TOP + 1):
                b = int(most / helper.ROOTS[m])
                for x in ([-most, b, 1, 0], [-1, 0, most, -b]):
                    answer = [0] + helper.smaller_window(m, x) if most == helper.TOP else [-22]
                    self.assertEqual(window(m, x), answer, (m, x))


class Wrong(unittest.TestCase):
    def test_m_not_from_1_to_4(self):
        for m in helper.WRONG_MS:
            for x in ([0, 0, 1, 0], [1, 0, 2, 0], [0, 0, 0, 0], []):
                self.assertEqual(window(m, x), [-22], (m, x))

    def test_x_of_every_length(self):
        for m in helper.MS:
            for count in range(9):
                x = [0, 0, 1, 0, 0, 0, 1, 0][:count]
                self.assertEqual(window(m, x), [0, 0, 0, m * m + 1, -m] if count == 4 else [-22], (m, x))

    def test_whole_numbers_far_out(self):
        far = helper.FARTHEST
        for m in helper.MS:
            for place in range(4):
                for number in (far, -far):
                    x = [0, 0, 1, 0]
                    x[place] = number
                    self.assertEqual(window(m, x), [-22], (m, x))
            for x in ([far - 1, 0, far, 0], [-far, -far, 1 - far, -far], [far] * 8, [-far] * 8):
                self.assertEqual(window(m, x), [-22], (m, x))

    def test_v_at_or_below_u(self):
        for m in helper.MS:
            for x in ([0, 0, 0, 0], [1, 0, 0, 0], [0, 0, -1, 0], [0, 1, 0, 0], [3, 3, 3, 3]):
                self.assertEqual(window(m, x), [-22], (m, x))


class AsItWas(unittest.TestCase):
    def test_what_is_handed_in_stays_and_a_second_call_answers_like_the_first(self):
        for m in helper.MS + helper.WRONG_MS:
            for x in ([0, 0, 1, 0], [1, 0, 2, 0], [-1, 0, 1, 0], [0, 0, 0, 0], [], [helper.FARTHEST] * 8):
                told = helper.Untouched(x)
                first = window(m, told)
                self.assertEqual(list(told), x)
                again = window(m, told)
                again.append(9)
                again[0] = 9
                self.assertEqual(window(m, told), first, (m, x))
                self.assertEqual(list(told), x)


if __name__ == "__main__":
    unittest.main()
