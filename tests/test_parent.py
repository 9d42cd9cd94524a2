"""parent(m, x, z): promises 1 and 2 as far as they speak of it."""

import unittest

import helper
from madelarger.windows import keeps, large, parent, piece


class Ordinary(unittest.TestCase):
    def test_points_of_two_steps_by_hand(self):
        cases = [
            (1, [0, 0, 1, 0], [0, -1], [0, 0, -1]), (1, [0, 0, 1, 0], [-1, -2], [0, 0, -1]),
            (1, [0, 0, 1, 0], [1, 1], [0, 0, 0]), (1, [0, 0, 1, 0], [2, 2], [0, 0, 0]),
            (1, [0, 0, 1, 0], [2, 3], [0, 1, 1]),
            (1, [-1, 0, 0, 0], [-1, 0], [0, -1, 0]), (1, [-1, 0, 0, 0], [0, 1], [0, -1, 0]),
            (1, [-1, 0, 0, 0], [1, 2], [0, 0, 1]), (1, [-1, 0, 0, 0], [1, 3], [0, 0, 1]),
            (2, [-1, 0, 0, 1], [0, 2], [0, 0, 0]), (2, [-1, 0, 0, 1], [1, 2], [0, 1, 0]),
            (2, [-1, 0, 0, 1], [2, 2], [0, 1, 0]), (2, [-1, 0, 0, 1], [0, -2], [0, -1, 0]),
            (3, [-1, 0, 0, 1], [2, -1], [0, -1, 0]), (3, [-1, 0, 0, 1], [1, 3], [0, 1, 0]),
            (4, [-1, 0, 0, 1], [4, 1], [0, 0, 0]), (4, [-1, 0, 0, 1], [1, 4], [0, 1, 0]),
        ]
        for m, x, z, answer in cases:
            self.assertEqual(parent(m, x, z), answer, (m, x, z))

    def test_points_of_three_steps_by_hand(self):
        cases = [
            (1, [-1, 0, 1, 0], [-1, -2], [0, 0, -1]), (1, [-1, 0, 1, 0], [-1, -1], [0, -1, 0]),
            (1, [-1, 0, 1, 0], [0, -1], [0, -1, 0]), (1, [-1, 0, 1, 0], [1, 1], [0, 0, 0]),
            (1, [-1, 0, 1, 0], [1, 2], [0, 0, 1]), (1, [-1, 0, 1, 0], [2, 2], [0, 0, 1]),
            (2, [-1, 0, -1, 2], [2, -1], [0, 2, -1]), (2, [-1, 0, -1, 2], [3, 0], [0, 0, 0]),
            (2, [-1, 0, -1, 2], [1, 1], [0, 3, -1]), (2, [-1, 0, -1, 2], [2, 2], [0, 1, 0]),
            (3, [-1, 0, -1, 3], [0, -1], [0, 3, -1]), (3, [-1, 0, -1, 3], [3, -1], [0, 3, -1]),
            (3, [-1, 0, -1, 3], [4, 0], [0, 0, 0]), (3, [-1, 0, -1, 3], [4, 1], [0, 7, -2]),
            (4, [-1, 0, -1, 4], [4, -1], [0, 4, -1]), (4, [-1, 0, -1, 4], [5, 0], [0, 0, 0]),
            (4, [-1, 0, -1, 4], [5, 1], [0, 13, -3]),
        ]
        for m, x, z, answer in cases:
            self.assertEqual(parent(m, x, z), answer, (m, x, z))

    def test_small_windows_and_numbers(self):
        parts = range(-3, 4)
        for m in helper.MS:
            for x, kept in helper.small_windows(m, 1):
                for z in [[a, b] for a in parts for b in parts]:
                    self.assertEqual(parent(m, x, z), helper.expected_parent(m, x, z), (m, x, z))

    def test_windows_of_all_lengths(self):
        for m in helper.MS:
            for x in helper.kept_windows(m):
                for z in helper.points_between(m, x, [-2, -1], [2, 1]):
                    self.assertEqual(parent(m, x, z), helper.expected_parent(m, x, z), (m, x, z))

    def test_windows_of_large_whole_numbers(self):
        for m in helper.MS:
            for x in helper.far_windows(m):
                for z in helper.points_between(m, x, [-2, -2], [2, 2]):
                    self.assertEqual(parent(m, x, z), helper.expected_parent(m, x, z), (m, x, z))

    def test_answer_is_a_list_of_whole_numbers(self):
        for z, count in (([2, 2], 3), ([0, 1], 1), ([], 1)):
            answer = parent(1, [0, 0, 1, 0], z)
            self.assertIs(type(answer), list)
            self.assertEqual([type(number) for number in answer], [int] * count)


class WhatHolds(unittest.TestCase):
    def check(self, m, x, z):
        """That z's parent is a point, made larger not beyond z, but the next one, made larger, is."""
        answer = parent(m, x, z)
        self.assertEqual((len(answer), answer[0]), (3, 0), (m, x, z))
        found = answer[1:]
        following = helper.plus(found, helper.expected_step(m, x, found))
        place = helper.value(m, *z)
        self.assertTrue(helper.in_window(m, x, found), (m, x, z))
        self.assertFalse(helper.below(place, helper.value(m, *helper.times_square(m, found))), (m, x, z))
        self.assertTrue(helper.below(place, helper.value(m, *helper.times_square(m, following))), (m, x, z))

    def test_points_near_zero(self):
        for m in helper.MS:
            for x in helper.kept_windows(m)[::3] + helper.far_windows(m)[::2]:
                for z in helper.points_between(m, x, [-3, -1], [3, 1]):
                    self.check(m, x, z)

    def test_points_near_a_million(self):
        for m in helper.MS:
            for sign in (1, -1):
                for x in ([-1, 0, 1, 0], [-1, 0, 0, 1], [0, 0, 1, 0], [0, -1, 0, 0], [-1, 0, -1, m]):
                    for z in helper.points_near_a_million(m, x, sign) if keeps(m, x) == [1] else []:
                        self.check(m, x, z)
                        self.assertEqual(parent(m, x, z), helper.expected_parent(m, x, z), (m, x, z))

    def test_parent_of_a_point_made_larger_is_that_point(self):
        for m in helper.MS:
            for x in helper.kept_windows(m) + helper.far_windows(m):
                for z in helper.points_between(m, x, [-3, 0], [3, 0]):
                    self.assertEqual(parent(m, x, large(m, x, z)[1:]), [0] + z, (m, x, z))

    def test_points_on_a_piece_have_its_point_for_a_parent(self):
        for m in helper.MS:
            longest = 0
            for x in helper.kept_windows(m)[::3] + helper.far_windows(m)[::2]:
                for z in helper.points_between(m, x, [-2, 0], [2, 0]):
                    point = helper.times_square(m, z)
                    row = helper.read_row(piece(m, x, z))
                    longest = max(longest, len(row))
                    for step in row:
                        self.assertEqual(parent(m, x, point), [0] + z, (m, x, z, point))
                        point = helper.plus(point, step)
                    self.assertEqual(parent(m, x, point), [0] + helper.plus(z, helper.expected_step(m, x, z)))
            # So some of the points here lie several steps behind one that is some point made larger.
            self.assertGreater(longest, 3, m)


class Corners(unittest.TestCase):
    def test_zero_is_its_own_parent(self):
        for m in helper.MS:
            for x in ([0, 0, 1, 0], [-1, 0, 1, 0], [0, 0, 0, m], [-1, 0, -1, m]):
                if keeps(m, x) == [1]:
                    self.assertEqual(parent(m, x, [0, 0]), [0, 0, 0], (m, x))
            self.assertEqual(parent(m, [-1, 0, 0, 0], [0, 0]), [-2])
            self.assertEqual(parent(m, [1, 0, 2, 0], [0, 0]), [-33])

    def test_window_from_zero_on(self):
        for m in helper.MS:
            inside = helper.partner_of(m, helper.tiny(m))
            outside = helper.minus([0, 0], inside)
            self.assertEqual(parent(m, [0, 0, 1, 0], inside), [0] + helper.over_square(m, inside))
            self.assertEqual(parent(m, [0, 0, 1, 0], outside), [-2])
            self.assertEqual(parent(m, [0, 0, 1, 0], [1, 1]), [0, 0, 0])

    def test_window_up_to_zero(self):
        for m in helper.MS:
            outside = helper.partner_of(m, helper.tiny(m))
            inside = helper.minus([0, 0], outside)
            self.assertEqual(parent(m, [-1, 0, 0, 0], inside), [0] + helper.over_square(m, inside))
            self.assertEqual(parent(m, [-1, 0, 0, 0], outside), [-2])
            # -1 is no point made larger, but lies behind -1 made larger.
            self.assertEqual(parent(m, [-1, 0, 0, 0], [-1, 0]), [0, -1, 0])

    def test_window_that_keeps_nothing(self):
        for m in helper.MS:
            tiny = helper.tiny(m, helper.TOP - 2)
            ahead = helper.minus([0, 0], tiny)
            self.assertEqual(parent(m, tiny + [2, 0], [1, 0]), [-33])
            self.assertEqual(parent(m, [-2, 0] + ahead, [-1, 0]), [-33])
            self.assertEqual(parent(m, ahead + [2, 0], [1, 0]), helper.expected_parent(m, ahead + [2, 0], [1, 0]))
            self.assertEqual(parent(m, [-2, 0] + tiny, [-1, 0]), helper.expected_parent(m, [-2, 0] + tiny, [-1, 0]))

    def test_partner_just_at_u_and_just_below_v(self):
        for m in helper.MS:
            for x in helper.kept_windows(m)[::2] + helper.far_windows(m):
                for z in helper.points_at_ends(m, x):
                    self.assertEqual(parent(m, x, z), helper.expected_parent(m, x, z), (m, x, z))
                    self.assertEqual(parent(m, x, z) == [-2], not helper.in_window(m, x, z), (m, x, z))

    def test_partner_just_at_an_end_of_the_smaller_window(self):
        for m in helper.MS:
            itself = []
            for x in helper.kept_windows(m):
                smaller = helper.smaller_window(m, x)
                for z in [z for z in helper.points_at_ends(m, smaller) if helper.in_window(m, x, z)]:
                    answer = parent(m, x, z)
                    self.assertEqual(answer, helper.expected_parent(m, x, z), (m, x, z))
                    itself.append(answer[1:] == helper.over_square(m, z))
                    self.assertEqual(itself[-1], helper.in_window(m, smaller, z), (m, x, z))
            self.assertGreater(min(itself.count(True), itself.count(False)), 20, m)

    def test_length_near_w_w(self):
        for m in helper.MS:
            tiny = helper.tiny(m, helper.TOP - 20)
            x = [0, 0] + helper.minus([1, m], tiny)
            for z in ([1, 0], [1, m], [2, 0]):
                self.assertEqual(parent(m, x, z), helper.expected_parent(m, x, z), (m, z))
            # 1 is a point, so 1 made larger is one, and its parent is 1.
            self.assertEqual(parent(m, x, [1, m]), [0, 1, 0])
            self.assertEqual(parent(m, [0, 0, 1, m], [1, 0]), [-22])
            self.assertEqual(parent(m, [0, 0] + helper.plus([1, m], tiny), [1, 0]), [-22])

    def test_length_near_one(self):
        for m in helper.MS:
            tiny = helper.tiny(m, helper.TOP - 20)
            # Only the longer one holds 1, so only there is w w some point made larger.
            self.assertEqual(parent(m, [0, 0] + helper.plus([1, 0], tiny), [1, m]), [0, 1, 0])
            self.assertEqual(parent(m, [0, 0, 1, 0], [1, m]), [0, 0, 0])
            self.assertEqual(parent(m, [0, 0] + helper.minus([1, 0], tiny), [0, 0]), [-22])

    def test_whole_numbers_of_z_at_a_million_and_one_beyond(self):
        for m in helper.MS:
            x = [-1, 0, 1, 0]
            for sign in (1, -1):
                z = helper.point_near_a_million(m, sign)
                self.assertEqual(parent(m, x, z), helper.expected_parent(m, x, z), (m, z))
                self.assertEqual(parent(m, x, [z[0], sign * (helper.TOP + 1)]), [-22])
                self.assertEqual(parent(m, x, [sign * helper.TOP, 0]), [-2])
                self.assertEqual(parent(m, x, [sign * (helper.TOP + 1), 0]), [-22])


if __name__ == "__main__":
    unittest.main()
