"""keeps(m, x): promises 1 and 2 as far as they speak of it."""

import unittest

import helper
from madelarger.windows import keeps


class Ordinary(unittest.TestCase):
    def test_windows_that_keep_their_points(self):
        cases = [
            (1, [-1, 0, 1, 0]), (1, [0, -1, 0, 0]), (1, [1, -1, 0, 1]), (1, [1, -1, 1, 0]),
            (2, [-2, 0, 3, 0]), (2, [0, -1, 0, 1]), (2, [2, -1, 1, 0]),
            (3, [-5, 0, 5, 0]), (3, [0, -1, 0, 2]), (3, [3, -1, 1, 0]),
            (4, [-8, 0, 9, 0]), (4, [0, -2, 0, 2]), (4, [4, -1, 1, 0]),
        ]
        for m, x in cases:
            self.assertEqual(keeps(m, x), [1], (m, x))

    def test_windows_that_do_not(self):
        cases = [
            (1, [1, 0, 2, 0]), (1, [-2, 0, -1, 0]), (1, [2, -1, 2, 0]), (1, [0, 1, 0, 2]),
            (2, [1, 0, 6, 0]), (2, [-6, 0, -1, 0]), (2, [-2, 1, 2, 0]),
            (3, [2, 0, 3, 0]), (3, [0, -2, 0, -1]), (3, [-3, 1, 2, 0]),
            (4, [1, 0, 18, 0]), (4, [-9, 0, -4, 0]), (4, [-4, 1, 2, 0]),
        ]
        for m, x in cases:
            self.assertEqual(keeps(m, x), [0], (m, x))

    def test_all_small_whole_numbers(self):
        parts = range(-3, 4)
        for m in helper.MS:
            for x in [[a, b, c, d] for a in parts for b in parts for c in parts for d in parts]:
                self.assertEqual(keeps(m, x), helper.expected_keeps(m, x), (m, x))

    def test_answer_is_a_list_of_one_whole_number(self):
        for x in ([0, 0, 1, 0], [1, 0, 2, 0], []):
            answer = keeps(1, x)
            self.assertIs(type(answer), list)
            self.assertEqual([type(number) for number in answer], [int])


class Corners(unittest.TestCase):
    def test_window_from_zero_on(self):
        for m in helper.MS:
            self.assertEqual(keeps(m, [0, 0, 1, 0]), [1])
            self.assertEqual(keeps(m, [0, 0, 0, 1]), [1])

    def test_window_up_to_zero(self):
        for m in helper.MS:
            self.assertEqual(keeps(m, [-1, 0, 0, 0]), [1])
            self.assertEqual(keeps(m, [0, -1, 0, 0]), [1])

    def test_window_just_beyond_zero(self):
        for m in helper.MS:
            tiny = helper.tiny(m, helper.TOP - 2)
            ahead = helper.minus([0, 0], tiny)
            self.assertEqual(keeps(m, tiny + [2, 0]), [0], m)
            self.assertEqual(keeps(m, ahead + [2, 0]), [1], m)
            self.assertEqual(keeps(m, [-2, 0] + ahead), [0], m)
            self.assertEqual(keeps(m, [-2, 0] + tiny), [1], m)

    def test_length_of_one(self):
        for m in helper.MS:
            tiny = helper.tiny(m, helper.TOP - 2)
            self.assertEqual(keeps(m, [0, 0, 1, 0]), [1])
            self.assertEqual(keeps(m, [0, 0] + helper.minus([1, 0], tiny)), [-22])
            self.assertEqual(keeps(m, [0, 0] + helper.plus([1, 0], tiny)), [1])
            self.assertEqual(keeps(m, [-1, 0] + helper.minus([0, 0], tiny)), [-22])
            self.assertEqual(keeps(m, tiny + helper.plus([1, 0], tiny)), [0])

    def test_length_of_w_w(self):
        for m in helper.MS:
            tiny = helper.tiny(m, helper.TOP - 20)
            self.assertEqual(keeps(m, [0, 0, 1, m]), [-22])
            self.assertEqual(keeps(m, [0, 0] + helper.minus([1, m], tiny)), [1])
            self.assertEqual(keeps(m, [0, 0] + helper.plus([1, m], tiny)), [-22])
            self.assertEqual(keeps(m, [-1, -m] + helper.minus([0, 0], tiny)), [0])
            self.assertEqual(keeps(m, tiny + [1, m]), [0])
            self.assertEqual(keeps(m, tiny + helper.plus([1, m], tiny)), [-22])

    def test_lengths_nearest_to_one_and_to_w_w(self):
        # u and v apart by up to twice what one of them may be: nearer than the numbers above.
        for m in helper.MS:
            tiny = helper.tiny(m, 2 * helper.TOP - 100)
            u = [-(tiny[0] // 2), -(tiny[1] // 2)]
            v = helper.plus(u, tiny)
            kept = helper.expected_keeps(m, u + helper.plus(v, [1, 0]))
            self.assertIn(kept, ([0], [1]))
            self.assertEqual(keeps(m, u + helper.plus(v, [1, 0])), kept, m)
            self.assertEqual(keeps(m, v + helper.plus(u, [1, 0])), [-22], m)
            self.assertEqual(keeps(m, u + helper.plus(v, [1, m])), [-22], m)
            kept = helper.expected_keeps(m, v + helper.plus(u, [1, m]))
            self.assertIn(kept, ([0], [1]))
            self.assertEqual(keeps(m, v + helper.plus(u, [1, m])), kept, m)

    def test_v_at_or_below_u(self):
        for m in helper.MS:
            for x in ([0, 0, 0, 0], [1, 0, 0, 0], [0, 0, -1, 0], [0, 1, 0, 0], [3, 3, 3, 3]):
                self.assertEqual(keeps(m, x), [-22])

    def test_whole_numbers_at_a_million(self):
        for m in helper.MS:
            self.assertEqual(keeps(m, [999999, 0, helper.TOP, 0]), [0])
            self.assertEqual(keeps(m, [-helper.TOP, 0, -999999, 0]), [0])
            self.assertEqual(keeps(m, [0, 999999, 0, helper.TOP]), [0])
            self.assertEqual(keeps(m, [0, -helper.TOP, 0, -999999]), [0])
            self.assertEqual(keeps(m, [helper.TOP, -helper.TOP, helper.TOP, -999999]), [0])

    def test_windows_about_zero_at_a_million(self):
        # b is so large that -1,000,000 and b w lies at most w below 0.
        for m in helper.MS:
            b = int(helper.TOP / helper.ROOTS[m])
            self.assertEqual(keeps(m, [-helper.TOP, b, 1, 0]), [1], m)
            self.assertEqual(keeps(m, [-1, 0, helper.TOP, -b]), [1], m)
            self.assertEqual(keeps(m, [-helper.TOP, b + 1, m, 1]), [0], m)
            b = int((helper.TOP + 1) / helper.ROOTS[m])
            self.assertEqual(keeps(m, [-helper.TOP - 1, b, 1, 0]), [-22], m)
            self.assertEqual(keeps(m, [-1, 0, helper.TOP + 1, -b]), [-22], m)

    def test_whole_numbers_one_beyond_a_million(self):
        over = helper.TOP + 1
        for m in helper.MS:
            self.assertEqual(keeps(m, [helper.TOP, 0, over, 0]), [-22])
            self.assertEqual(keeps(m, [-over, 0, -helper.TOP, 0]), [-22])
            self.assertEqual(keeps(m, [0, helper.TOP, 0, over]), [-22])
            self.assertEqual(keeps(m, [0, -over, 0, -helper.TOP]), [-22])
            self.assertEqual(keeps(m, [over, 0, over + 1, 0]), [-22])


class Wrong(unittest.TestCase):
    def test_m_not_from_1_to_4(self):
        for m in helper.WRONG_MS:
            for x in ([0, 0, 1, 0], [1, 0, 2, 0], [], [0, 0, 0, 0]):
                self.assertEqual(keeps(m, x), [-22], (m, x))

    def test_x_of_every_length(self):
        for m in helper.MS:
            for count in range(9):
                x = [0, 0, 1, 0, 0, 0, 1, 0][:count]
                self.assertEqual(keeps(m, x), [1] if count == 4 else [-22], (m, x))

    def test_whole_numbers_far_out(self):
        far = helper.FARTHEST
        for m in helper.MS:
            for place in range(4):
                for number in (far, -far):
                    x = [0, 0, 1, 0]
                    x[place] = number
                    self.assertEqual(keeps(m, x), [-22], (m, x))
            self.assertEqual(keeps(m, [far - 1, 0, far, 0]), [-22])
            self.assertEqual(keeps(m, [-far, -far, 1 - far, -far]), [-22])
            self.assertEqual(keeps(m, [far] * 8), [-22])

    def test_window_of_one_m_is_none_of_another(self):
        self.assertEqual([keeps(m, [0, 0, 5, 0]) for m in helper.MS], [[-22], [1], [1], [1]])
        self.assertEqual([keeps(m, [0, 0, 10, 0]) for m in helper.MS], [[-22], [-22], [1], [1]])
        self.assertEqual([keeps(m, [0, 0, 17, 0]) for m in helper.MS], [[-22], [-22], [-22], [1]])


if __name__ == "__main__":
    unittest.main()
