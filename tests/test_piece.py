"""piece(m, x, z): promises 1 and 2 as far as they speak of it."""

import unittest

import helper
from madelarger.windows import keeps, large, piece, pieces


class Ordinary(unittest.TestCase):
    def test_by_hand(self):
        cases = [
            (1, [0, 0, 1, 0], [0, 0], [3, 1, 1, 1, 1, 0, 1]),
            (1, [0, 0, 1, 0], [2, 2], [2, 1, 1, 0, 1]),
            (1, [-1, 0, 1, 0], [0, 0], [3, 0, 1, 1, 0, 0, 1]),
            (1, [-1, 0, 1, 0], [-1, 0], [3, 1, 0, -1, 1, 1, 0]),
            (1, [-1, 0, 1, 0], [1, 1], [3, 0, 1, 1, 0, 0, 1]),
            (1, [-1, 0, 0, 0], [-1, 0], [3, 0, 1, 1, 1, 1, 1]),
            (2, [-1, 0, 0, 1], [0, 1], [7, 1, 0, 1, 0, -2, 1, 1, 0, 1, 0, -2, 1, 1, 0]),
            (2, [-1, 0, 0, 1], [2, 0], [3, 1, 0, 1, 0, -2, 1]),
            (2, [0, 0, 1, 0], [1, 1], [5, 1, 1, 0, 1, 1, 1, 0, 1, 0, 1]),
            (3, [-1, 0, 0, 1], [3, 0], [4, 1, 0, 1, 0, 1, 0, -3, 1]),
            (4, [-1, 0, 0, 1], [4, 0], [5, 1, 0, 1, 0, 1, 0, 1, 0, -4, 1]),
        ]
        for m, x, z, answer in cases:
            self.assertEqual(piece(m, x, z), answer, (m, x, z))

    def test_small_windows_and_numbers(self):
        parts = range(-3, 4)
        for m in helper.MS:
            for x, kept in helper.small_windows(m, 1):
                for z in [[a, b] for a in parts for b in parts]:
                    self.assertEqual(piece(m, x, z), helper.expected_piece(m, x, z), (m, x, z))

    def test_windows_of_all_lengths(self):
        for m in helper.MS:
            for x in helper.kept_windows(m)[::3]:
                for z in helper.points_between(m, x, [-2, 0], [2, 0]):
                    self.assertEqual(piece(m, x, z), helper.expected_piece(m, x, z), (m, x, z))

    def test_windows_of_large_whole_numbers(self):
        for m in helper.MS:
            for x in helper.far_windows(m):
                for z in helper.points_between(m, x, [-1, -1], [1, 1]):
                    self.assertEqual(piece(m, x, z), helper.expected_piece(m, x, z), (m, x, z))

    def test_answer_is_a_list_of_whole_numbers(self):
        for z, count in (([0, 0], 7), ([0, 1], 1), ([], 1)):
            answer = piece(1, [0, 0, 1, 0], z)
            self.assertIs(type(answer), list)
            self.assertEqual([type(number) for number in answer], [int] * count)


class WhatHolds(unittest.TestCase):
    def check(self, m, x, z):
        """That z's piece leads by each point between from z made larger to the next point made larger."""
        row = helper.read_row(piece(m, x, z))
        step = helper.expected_step(m, x, z)
        together = [sum(part[0] for part in row), sum(part[1] for part in row)]
        self.assertEqual(together, helper.times_square(m, step), (m, x, z))
        point = large(m, x, z)[1:]
        passed = [point]
        for part in row:
            point = helper.plus(point, part)
            passed.append(point)
        self.assertEqual(passed, helper.points_between(m, x, passed[0], passed[-1]), (m, x, z))
        self.assertIn((step, row), helper.read_pieces(pieces(m, x)), (m, x, z))

    def test_points_near_zero(self):
        for m in helper.MS:
            for x in helper.kept_windows(m)[1::5] + helper.far_windows(m)[::4]:
                for z in helper.points_between(m, x, [-3, 0], [3, 0]):
                    self.check(m, x, z)

    def test_points_near_a_million(self):
        for m in helper.MS:
            for sign in (1, -1):
                for x in ([-1, 0, 1, 0], [-1, 0, 0, 1], [0, 0, 1, 0], [0, -1, 0, 0]):
                    for z in helper.points_near_a_million(m, x, sign) if keeps(m, x) == [1] else []:
                        self.check(m, x, z)

    def test_points_whose_partner_lies_at_the_start_of_a_part_and_just_below(self):
        for m in helper.MS:
            for x in ([-1, 0, 1, 0], [-1, 0, 0, 1], [0, 0, 1, 0], [-1, 0, 0, 0], [0, 0, 0, m], [-1, 0, -1, m]):
                tiny = helper.tiny(m, helper.TOP // 50)
                for start in helper.part_starts(m, x) if keeps(m, x) == [1] else []:
                    self.check(m, x, helper.partner_of(m, start))
                    self.check(m, x, helper.partner_of(m, helper.plus(start, tiny)))
                    if start != x[:2]:
                        self.check(m, x, helper.partner_of(m, helper.minus(start, tiny)))


class Corners(unittest.TestCase):
    def test_zero(self):
        for m in helper.MS:
            for x in ([0, 0, 1, 0], [-1, 0, 1, 0], [0, 0, 0, m], [0, -1, 0, 1]):
                if keeps(m, x) == [1]:
                    self.assertEqual(piece(m, x, [0, 0]), helper.expected_piece(m, x, [0, 0]), (m, x))
            self.assertEqual(piece(m, [-1, 0, 0, 0], [0, 0]), [-2])
            self.assertEqual(piece(m, [1, 0, 2, 0], [0, 0]), [-33])

    def test_window_from_zero_on(self):
        for m in helper.MS:
            inside = helper.partner_of(m, helper.tiny(m))
            # From 0 and from just beyond it leads the longest step, 1 and w, and both rows are the same.
            self.assertEqual(piece(m, [0, 0, 1, 0], inside), piece(m, [0, 0, 1, 0], [0, 0]))
            self.assertEqual(piece(m, [0, 0, 1, 0], helper.minus([0, 0], inside)), [-2])

    def test_window_up_to_zero(self):
        for m in helper.MS:
            outside = helper.partner_of(m, helper.tiny(m))
            inside = helper.minus([0, 0], outside)
            x = [-1, 0, 0, 0]
            self.assertEqual(piece(m, x, inside), helper.expected_piece(m, x, inside))
            self.assertEqual(piece(m, x, outside), [-2])

    def test_window_that_keeps_nothing(self):
        for m in helper.MS:
            tiny = helper.tiny(m, helper.TOP - 2)
            self.assertEqual(piece(m, tiny + [2, 0], [1, 0]), [-33])
            self.assertEqual(piece(m, [-2, 0] + helper.minus([0, 0], tiny), [-1, 0]), [-33])

    def test_partner_just_at_u_and_just_below_v(self):
        for m in helper.MS:
            for x in helper.kept_windows(m)[2::7] + helper.far_windows(m)[1::3]:
                tiny = helper.tiny(m, helper.TOP // 100)
                at_u = helper.partner_of(m, x[:2])
                at_v = helper.partner_of(m, x[2:])
                below_u = helper.partner_of(m, helper.minus(x[:2], tiny))
                below_v = helper.partner_of(m, helper.minus(x[2:], tiny))
                for z in [z for z in (at_u, at_v, below_u, below_v) if max(map(abs, z)) <= helper.TOP]:
                    self.assertEqual(piece(m, x, z), helper.expected_piece(m, x, z), (m, x, z))
                    self.assertEqual(piece(m, x, z) == [-2], z in (at_v, below_u), (m, x, z))

    def test_length_near_w_w(self):
        for m in helper.MS:
            tiny = helper.tiny(m, helper.TOP - 20)
            long = helper.minus([1, m], tiny)
            self.assertEqual(piece(m, [0, 0] + long, [1, 0]), helper.expected_piece(m, [0, 0] + long, [1, 0]))
            self.assertEqual(piece(m, [0, 0, 1, m], [1, 0]), [-22])
            self.assertEqual(piece(m, [0, 0] + helper.plus([1, m], tiny), [1, 0]), [-22])

    def test_length_near_one(self):
        for m in helper.MS:
            tiny = helper.tiny(m, helper.TOP - 20)
            longer = [0, 0] + helper.plus([1, 0], tiny)
            # Only the longer one holds 1, and there the step 1 leads from 0 to it.
            self.assertEqual(piece(m, longer, [0, 0]), helper.expected_piece(m, longer, [0, 0]))
            self.assertNotEqual(piece(m, longer, [0, 0]), piece(m, [0, 0, 1, 0], [0, 0]))
            self.assertEqual(piece(m, [0, 0] + helper.minus([1, 0], tiny), [0, 0]), [-22])

    def test_whole_numbers_of_z_at_a_million_and_one_beyond(self):
        for m in helper.MS:
            x = [-1, 0, 1, 0]
            for sign in (1, -1):
                z = helper.point_near_a_million(m, sign)
                self.assertEqual(piece(m, x, z), helper.expected_piece(m, x, z), (m, z))
                self.assertEqual(piece(m, x, [z[0], sign * (helper.TOP + 1)]), [-22])
                self.assertEqual(piece(m, x, [sign * helper.TOP, 0]), [-2])
                self.assertEqual(piece(m, x, [sign * (helper.TOP + 1), 0]), [-22])


if __name__ == "__main__":
    unittest.main()
