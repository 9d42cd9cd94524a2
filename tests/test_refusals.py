"""Promise 1, of piece and pieces: what is refused, and which refusal is answered where several are due."""

import unittest

import helper
from madelarger.windows import piece, pieces

FIRST = {m: piece(m, [0, 0, 1, 0], [0, 0]) for m in helper.MS}
ALL = {m: pieces(m, [0, 0, 1, 0]) for m in helper.MS}


class Wrong(unittest.TestCase):
    def test_m_not_from_1_to_4(self):
        for m in helper.WRONG_MS:
            for x in ([0, 0, 1, 0], [1, 0, 2, 0], [0, 0, 0, 0], []):
                self.assertEqual(pieces(m, x), [-22], (m, x))
                for z in ([0, 0], [9, 9], []):
                    self.assertEqual(piece(m, x, z), [-22], (m, x, z))

    def test_x_of_every_length(self):
        for m in helper.MS:
            for count in range(9):
                x = [0, 0, 1, 0, 0, 0, 1, 0][:count]
                self.assertEqual(piece(m, x, [0, 0]), FIRST[m] if count == 4 else [-22], (m, x))
                self.assertEqual(pieces(m, x), ALL[m] if count == 4 else [-22], (m, x))

    def test_z_of_every_length(self):
        for m in helper.MS:
            for count in range(9):
                answer = piece(m, [0, 0, 1, 0], [0] * count)
                self.assertEqual(answer, FIRST[m] if count == 2 else [-22], (m, count))

    def test_whole_numbers_far_out(self):
        far = helper.FARTHEST
        for m in helper.MS:
            for number in (far, -far, helper.TOP + 1, -helper.TOP - 1):
                for z in ([number, 0], [0, number], [number, number], [number] * 8):
                    self.assertEqual(piece(m, [0, 0, 1, 0], z), [-22], (m, z))
                for place in range(4):
                    x = [0, 0, 1, 0]
                    x[place] = number
                    self.assertEqual(piece(m, x, [0, 0]), [-22], (m, x))
                    self.assertEqual(pieces(m, x), [-22], (m, x))
            self.assertEqual(piece(m, [far] * 8, [-far] * 8), [-22])
            self.assertEqual(pieces(m, [-far] * 8), [-22])

    def test_windows_of_whole_numbers_one_beyond_a_million(self):
        over = helper.TOP + 1
        for m in helper.MS:
            # So many times w that the number lies less than w from 0.
            b = int(over / helper.ROOTS[m])
            for x in ([-over, b, 1, 0], [-1, 0, over, -b]):
                self.assertEqual(helper.expected_keeps(m, x), [1], (m, x))
                self.assertEqual(piece(m, x, [0, 0]), [-22], (m, x))
                self.assertEqual(pieces(m, x), [-22], (m, x))
            b = int(helper.TOP / helper.ROOTS[m])
            for x in ([-helper.TOP, b, 1, 0], [-1, 0, helper.TOP, -b]):
                self.assertEqual(piece(m, x, [0, 0]), helper.expected_piece(m, x, [0, 0]), (m, x))
                self.assertEqual(pieces(m, x), helper.expected_pieces(m, x), (m, x))


class Order(unittest.TestCase):
    def test_wrong_input_ahead_of_all(self):
        for m in helper.MS:
            for z in ([], [0], [0, 0, 0], [helper.TOP + 1, 0], [0, -helper.FARTHEST]):
                self.assertEqual(piece(m, [1, 0, 2, 0], z), [-22], (m, z))
                self.assertEqual(piece(m, [0, 0, 1, 0], z), [-22], (m, z))
            for x in ([1, 0, 1, 0], [1, 0, 2, m], [helper.TOP, 0, helper.TOP + 1, 0], [-1, 0, -2, 0]):
                self.assertEqual(piece(m, x, [0, 0]), [-22], (m, x))
                self.assertEqual(piece(m, x, [5, 0]), [-22], (m, x))
                self.assertEqual(pieces(m, x), [-22], (m, x))
        self.assertEqual(piece(5, [1, 0, 2, 0], [0, 0]), [-22])
        self.assertEqual(piece(0, [0, 0, 1, 0], [5, 0]), [-22])
        self.assertEqual(pieces(5, [1, 0, 2, 0]), [-22])

    def test_window_that_does_not_keep_ahead_of_no_point(self):
        for m in helper.MS:
            for x in ([1, 0, 2, 0], [-2, 0, -1, 0]):
                for z in ([0, 0], [1, 0], [-2, 0], [helper.TOP, helper.TOP]):
                    self.assertEqual(piece(m, x, z), [-33], (m, x, z))
                self.assertEqual(pieces(m, x), [-33], (m, x))

    def test_no_point_last(self):
        for m in helper.MS:
            for z in ([helper.TOP, helper.TOP], [1, 0], [0, 1], [-1, 0]):
                self.assertEqual(piece(m, [0, 0, 1, 0], z), [-2], (m, z))


if __name__ == "__main__":
    unittest.main()
