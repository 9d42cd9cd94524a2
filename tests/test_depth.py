"""depth(m, x, z): promises 1 and 2 as far as they speak of it."""

import unittest

import helper
from madelarger.windows import depth, how_deep, keeps, large, parent


def made_larger_often(m, z):
    """z, z made larger, that made larger, and so on, as far as they may be handed in."""
    found = []
    while max(map(abs, z)) <= helper.TOP and z not in found:
        found.append(z)
        z = helper.times_square(m, z)
    return found


class Ordinary(unittest.TestCase):
    def test_by_hand(self):
        cases = [
            (1, [0, 0, 1, 0], [1, 1], 0), (1, [0, 0, 1, 0], [2, 2], 0), (1, [0, 0, 1, 0], [2, 3], 1),
            (1, [0, 0, 1, 0], [5, 8], 2), (1, [0, 0, 1, 0], [13, 21], 3), (1, [0, 0, 1, 0], [0, -1], 0),
            (1, [0, 0, 1, 0], [-1, -2], 1), (1, [0, 0, 1, 0], [514229, 832040], 14),
            (1, [-1, 0, 1, 0], [-1, 0], 0), (1, [-1, 0, 1, 0], [-1, -1], 1), (1, [-1, 0, 1, 0], [1, 2], 1),
            (1, [-1, 0, 0, 0], [1, 3], 0), (1, [-1, 0, 0, 0], [3, 5], 2),
            (1, [-1, 0, -1, 1], [-514229, -832040], 15),
            (2, [-1, 0, 0, 1], [1, 0], 0), (2, [-1, 0, 0, 1], [1, 2], 1), (2, [-1, 0, 0, 1], [5, 12], 2),
            (2, [-1, 0, -1, 2], [1, 1], 1), (2, [-1, 0, -1, 2], [3, 7], 2),
            (3, [-1, 0, 0, 1], [3, 1], 0), (3, [-1, 0, 0, 1], [1, 3], 1), (3, [-1, 0, 0, 1], [10, 33], 2),
            (4, [-1, 0, 0, 1], [4, 0], 0), (4, [-1, 0, 0, 1], [1, 4], 1), (4, [-1, 0, 0, 1], [17, 72], 2),
        ]
        for m, x, z, count in cases:
            self.assertEqual(depth(m, x, z), [count], (m, x, z))

    def test_small_windows_and_numbers(self):
        parts = range(-4, 5)
        for m in helper.MS:
            for x, kept in helper.small_windows(m, 1):
                for z in [[a, b] for a in parts for b in parts]:
                    self.assertEqual(depth(m, x, z), helper.expected_depth(m, x, z), (m, x, z))

    def test_windows_of_all_lengths_and_of_large_whole_numbers(self):
        for m in helper.MS:
            for x in helper.kept_windows(m) + helper.far_windows(m):
                for z in helper.points_between(m, x, [-3, -1], [3, 1]):
                    self.assertEqual(depth(m, x, z), helper.expected_depth(m, x, z), (m, x, z))

    def test_answer_is_a_list_of_one_whole_number(self):
        for z in ([0, 0], [2, 3], [1, 1], [0, 1], []):
            answer = depth(1, [0, 0, 1, 0], z)
            self.assertIs(type(answer), list)
            self.assertEqual([type(number) for number in answer], [int])


class WhatHolds(unittest.TestCase):
    def windows(self, m):
        return helper.kept_windows(m) + helper.far_windows(m)

    def test_point_made_larger_is_deeper_by_one(self):
        for m in helper.MS:
            for x in self.windows(m):
                for z in helper.points_between(m, x, [-3, 0], [3, 0]):
                    made = large(m, x, z)[1:]
                    self.assertEqual(depth(m, x, made), [min(20, depth(m, x, z)[0] + 1)], (m, x, z))

    def test_point_that_is_no_other_one_made_larger_is_not_deep(self):
        for m in helper.MS:
            for x in self.windows(m):
                smaller = helper.smaller_window(m, x)
                for z in helper.points_between(m, x, [-4, 0], [4, 0]):
                    self.assertEqual(depth(m, x, z) == [0], not helper.in_window(m, smaller, z), (m, x, z))

    def test_point_is_deep_as_often_as_its_parent_made_larger_is_it(self):
        for m in helper.MS:
            for x in self.windows(m)[::3]:
                for z in helper.points_between(m, x, [-3, -1], [3, 1]):
                    count = 0
                    point = z
                    while count < 20 and helper.times_square(m, parent(m, x, point)[1:]) == point:
                        point = parent(m, x, point)[1:]
                        count = count + 1
                    self.assertEqual(depth(m, x, z), [count], (m, x, z))

    def test_all_depths_that_can_be_handed_in(self):
        # Deeper ones but 0 have whole numbers beyond a million.
        for m, most in ((1, 15), (2, 8), (3, 6), (4, 5)):
            found = set()
            for x in ([0, 0, 1, 0], [-1, 0, -1, m], [0, -1, 1, 0], [0, 0, 0, m]):
                for start in helper.points_between(m, x, [0, 0], [1, 1]) if keeps(m, x) == [1] else []:
                    for z in made_larger_often(m, start):
                        found.add(depth(m, x, z)[0])
                        self.assertEqual(depth(m, x, z), helper.expected_depth(m, x, z), (m, x, z))
            self.assertEqual(found, set(range(most + 1)) | {20}, m)

    def test_depths_to_twenty_and_beyond(self):
        for m in helper.MS:
            for x in ([0, 0, 1, 0], [-1, 0, 0, 0], [-1, 0, 1, 0], [-1, 0, -1, m]):
                for start in helper.points_between(m, x, [-3, 0], [3, 0]):
                    first = how_deep(m, x, start)
                    self.assertEqual([first], helper.expected_depth(m, x, start), (m, x, start))
                    z = start
                    for count in range(26):
                        self.assertEqual(how_deep(m, x, z), min(20, first + count), (m, x, z))
                        z = helper.times_square(m, z)


class Corners(unittest.TestCase):
    def test_zero_is_as_deep_as_can_be(self):
        for m in helper.MS:
            for x in ([0, 0, 1, 0], [-1, 0, 1, 0], [0, 0, 0, m], [-1, 0, -1, m]):
                if keeps(m, x) == [1]:
                    self.assertEqual(depth(m, x, [0, 0]), [20], (m, x))
            tiny = helper.tiny(m)
            for x in ([-1, 0] + tiny, helper.minus([0, 0], tiny) + [1, 0]):
                self.assertEqual(depth(m, x, [0, 0]), [20], (m, x))
            self.assertEqual(depth(m, [-1, 0, 0, 0], [0, 0]), [-2])
            self.assertEqual(depth(m, [1, 0, 2, 0], [0, 0]), [-33])

    def test_window_from_zero_on(self):
        for m in helper.MS:
            inside = helper.partner_of(m, helper.tiny(m))
            self.assertEqual(depth(m, [0, 0, 1, 0], inside), helper.expected_depth(m, [0, 0, 1, 0], inside))
            self.assertGreater(depth(m, [0, 0, 1, 0], inside)[0], 2)
            self.assertEqual(depth(m, [0, 0, 1, 0], helper.minus([0, 0], inside)), [-2])

    def test_window_up_to_zero(self):
        for m in helper.MS:
            outside = helper.partner_of(m, helper.tiny(m))
            inside = helper.minus([0, 0], outside)
            self.assertEqual(depth(m, [-1, 0, 0, 0], inside), helper.expected_depth(m, [-1, 0, 0, 0], inside))
            self.assertGreater(depth(m, [-1, 0, 0, 0], inside)[0], 2)
            self.assertEqual(depth(m, [-1, 0, 0, 0], outside), [-2])
            self.assertEqual(depth(m, [-1, 0, 0, 0], [-1, 0]), [0])
            self.assertEqual(depth(m, [-1, 0, 0, 0], [-1, -m]), [1])

    def test_window_that_keeps_nothing(self):
        for m in helper.MS:
            tiny = helper.tiny(m, helper.TOP - 2)
            ahead = helper.minus([0, 0], tiny)
            self.assertEqual(depth(m, tiny + [2, 0], [1, 0]), [-33])
            self.assertEqual(depth(m, [-2, 0] + ahead, [-1, 0]), [-33])
            self.assertEqual(depth(m, ahead + [2, 0], [1, m]), [1])
            self.assertEqual(depth(m, [-2, 0] + tiny, [-1, -m]), [1])

    def test_partner_just_at_u_and_just_below_v(self):
        for m in helper.MS:
            for x in helper.kept_windows(m) + helper.far_windows(m):
                for z in helper.points_at_ends(m, x):
                    self.assertEqual(depth(m, x, z), helper.expected_depth(m, x, z), (m, x, z))
                    self.assertEqual(depth(m, x, z) == [-2], not helper.in_window(m, x, z), (m, x, z))

    def test_partner_just_at_an_end_of_the_smaller_window(self):
        for m in helper.MS:
            deep = []
            for x in helper.kept_windows(m):
                smaller = helper.smaller_window(m, x)
                for z in [z for z in helper.points_at_ends(m, smaller) if helper.in_window(m, x, z)]:
                    answer = depth(m, x, z)
                    self.assertEqual(answer, helper.expected_depth(m, x, z), (m, x, z))
                    deep.append(answer[0] > 0)
                    self.assertEqual(deep[-1], helper.in_window(m, smaller, z), (m, x, z))
            self.assertGreater(min(deep.count(True), deep.count(False)), 20, m)

    def test_partner_just_at_an_end_made_smaller_often(self):
        # The point for u, made larger so often, is just so deep; the one for v isn't quite.
        for m in helper.MS:
            x = [-1, 0, 1, 0]
            for count, z in enumerate(made_larger_often(m, [-1, 0])):
                self.assertEqual(depth(m, x, z), [count], (m, z))
            for count, z in enumerate(made_larger_often(m, [1, 0])):
                self.assertEqual(depth(m, x, z), [count - 1] if count > 0 else [-2], (m, z))

    def test_length_near_w_w(self):
        for m in helper.MS:
            tiny = helper.tiny(m, helper.TOP - 20)
            x = [0, 0] + helper.minus([1, m], tiny)
            # The partner of 1 over w w is w w, which lies just beyond the window.
            self.assertEqual(depth(m, x, [1, 0]), [0])
            self.assertEqual(depth(m, x, [1, m]), [1])
            self.assertEqual(depth(m, [0, 0, 1, m], [1, 0]), [-22])
            self.assertEqual(depth(m, [0, 0] + helper.plus([1, m], tiny), [1, 0]), [-22])

    def test_length_near_one(self):
        for m in helper.MS:
            tiny = helper.tiny(m, helper.TOP - 20)
            # Only the longer one holds 1, so only there is w w some point made larger.
            self.assertEqual(depth(m, [0, 0] + helper.plus([1, 0], tiny), [1, m]), [1])
            self.assertEqual(depth(m, [0, 0, 1, 0], [1, m]), [0])
            self.assertEqual(depth(m, [0, 0] + helper.minus([1, 0], tiny), [0, 0]), [-22])

    def test_points_near_a_million(self):
        for m in helper.MS:
            for sign in (1, -1):
                for x in ([-1, 0, 1, 0], [-1, 0, 0, 1], [0, 0, 1, 0], [0, -1, 0, 0], [-1, 0, -1, m]):
                    for z in helper.points_near_a_million(m, x, sign) if keeps(m, x) == [1] else []:
                        self.assertEqual(depth(m, x, z), helper.expected_depth(m, x, z), (m, x, z))

    def test_whole_numbers_of_z_at_a_million_and_one_beyond(self):
        for m in helper.MS:
            x = [-1, 0, 1, 0]
            for sign in (1, -1):
                z = helper.point_near_a_million(m, sign)
                self.assertEqual(depth(m, x, z), helper.expected_depth(m, x, z), (m, z))
                self.assertEqual(depth(m, x, [z[0], sign * (helper.TOP + 1)]), [-22])
                self.assertEqual(depth(m, x, [sign * helper.TOP, 0]), [-2])
                self.assertEqual(depth(m, x, [sign * (helper.TOP + 1), 0]), [-22])


if __name__ == "__main__":
    unittest.main()
