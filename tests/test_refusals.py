"""Promise 1: what is refused, and which refusal is answered where several are due.

Of keeps and large the files for them tell it.
"""

import unittest

import helper
from madelarger.windows import depth, parent, piece, pieces, window

WINDOW = [0, 0, 1, 0]
# Each call, and the second way to what it answers.
POINT_CALLS = {piece: helper.expected_piece, parent: helper.expected_parent, depth: helper.expected_depth}
WINDOW_CALLS = {pieces: helper.expected_pieces, window: helper.expected_window}


class Refusals(unittest.TestCase):
    def check_point(self, m, x, z, number):
        for call in POINT_CALLS:
            self.assertEqual(call(m, x, z), [number], (call, m, x, z))

    def check_window(self, m, x, number):
        for call in WINDOW_CALLS:
            self.assertEqual(call(m, x), [number], (call, m, x))

    def check_nothing_refused(self, m, x, z):
        """That each call gives the right answer, and that this is no refusal."""
        answers = [(call(m, x, z), expected(m, x, z)) for call, expected in POINT_CALLS.items()]
        answers.extend([(call(m, x), expected(m, x)) for call, expected in WINDOW_CALLS.items()])
        for answer, expected in answers:
            self.assertEqual(answer, expected, (m, x, z))
            self.assertGreaterEqual(answer[0], 0, (m, x, z))


class Wrong(Refusals):
    def test_nothing_wrong(self):
        for m in helper.MS:
            self.check_nothing_refused(m, WINDOW, [0, 0])
            self.check_nothing_refused(m, [-1, 0, 1, 0], [0, 1])

    def test_m_not_from_1_to_4(self):
        for m in helper.WRONG_MS:
            for x in (WINDOW, [1, 0, 2, 0], [0, 0, 0, 0], []):
                self.check_window(m, x, -22)
                for z in ([0, 0], [9, 9], []):
                    self.check_point(m, x, z, -22)

    def test_x_of_every_length(self):
        for m in helper.MS:
            for count in [count for count in range(9) if count != 4]:
                x = [0, 0, 1, 0, 0, 0, 1, 0][:count]
                self.check_window(m, x, -22)
                self.check_point(m, x, [0, 0], -22)

    def test_z_of_every_length(self):
        for m in helper.MS:
            for count in [count for count in range(9) if count != 2]:
                self.check_point(m, WINDOW, [0] * count, -22)

    def test_whole_numbers_far_out(self):
        far = helper.FARTHEST
        for m in helper.MS:
            for number in (far, -far, helper.TOP + 1, -helper.TOP - 1):
                for z in ([number, 0], [0, number], [number, number], [number] * 8):
                    self.check_point(m, WINDOW, z, -22)
                for place in range(4):
                    x = list(WINDOW)
                    x[place] = number
                    self.check_point(m, x, [0, 0], -22)
                    self.check_window(m, x, -22)
            self.check_point(m, [far] * 8, [-far] * 8, -22)
            self.check_window(m, [-far] * 8, -22)

    def test_windows_of_whole_numbers_at_a_million_and_one_beyond(self):
        over = helper.TOP + 1
        for m in helper.MS:
            # So many times w that the number lies less than w from 0.
            b = int(over / helper.ROOTS[m])
            for x in ([-over, b, 1, 0], [-1, 0, over, -b]):
                self.assertEqual(helper.expected_keeps(m, x), [1], (m, x))
                self.check_point(m, x, [0, 0], -22)
                self.check_window(m, x, -22)
            b = int(helper.TOP / helper.ROOTS[m])
            for x in ([-helper.TOP, b, 1, 0], [-1, 0, helper.TOP, -b]):
                self.check_nothing_refused(m, x, [0, 0])


class Order(Refusals):
    def test_wrong_input_ahead_of_all(self):
        for m in helper.MS:
            for z in ([], [0], [0, 0, 0], [helper.TOP + 1, 0], [0, -helper.FARTHEST]):
                self.check_point(m, [1, 0, 2, 0], z, -22)
                self.check_point(m, WINDOW, z, -22)
            for x in ([1, 0, 1, 0], [1, 0, 2, m], [helper.TOP, 0, helper.TOP + 1, 0], [-1, 0, -2, 0]):
                self.check_point(m, x, [0, 0], -22)
                self.check_point(m, x, [5, 0], -22)
                self.check_window(m, x, -22)
        for m in helper.WRONG_MS:
            self.check_point(m, [1, 0, 2, 0], [0, 0], -22)
            self.check_point(m, WINDOW, [5, 0], -22)
            self.check_window(m, [1, 0, 2, 0], -22)

    def test_window_that_does_not_keep_ahead_of_no_point(self):
        for m in helper.MS:
            for x in ([1, 0, 2, 0], [-2, 0, -1, 0]):
                for z in ([0, 0], [1, 0], [-2, 0], [helper.TOP, helper.TOP]):
                    self.check_point(m, x, z, -33)
                self.assertEqual(pieces(m, x), [-33], (m, x))
                self.assertEqual(window(m, x), helper.expected_window(m, x), (m, x))

    def test_no_point_last(self):
        for m in helper.MS:
            for z in ([helper.TOP, helper.TOP], [1, 0], [0, 1], [-1, 0]):
                self.check_point(m, WINDOW, z, -2)


if __name__ == "__main__":
    unittest.main()
