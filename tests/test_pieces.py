"""pieces(m, x): promises 1 and 2 as far as they speak of it."""

import unittest

import helper
from madelarger.windows import piece, pieces


def flat(rows):
    """The answer that tells these pieces, each a step and a row of steps."""
    return [len(rows)] + [number for step, row in rows for number in step + helper.told(row)]


class Ordinary(unittest.TestCase):
    def test_two_steps_by_hand(self):
        w, one, more, less = [0, 1], [1, 0], [1, 1], [-2, 1]
        cases = [
            (1, [0, 0, 1, 0], [(w, [more, w]), (more, [more, more, w])]),
            (1, [0, 0, 0, 1], [(one, [one, w]), (w, [one, w, w])]),
            (1, [-1, 0, -1, 1], [(one, [w, one]), (w, [w, one, w])]),
            (2, [-1, 0, 0, 1], [(less, [one, one, less]), (one, [one, one, less, one, one, less, one])]),
            (2, [0, 0, 1, 0], [(w, [more, w, more, w, w]), (more, [more, w, more, w, more, w, w])]),
        ]
        for m, x, rows in cases:
            self.assertEqual(pieces(m, x), flat(rows), (m, x))

    def test_three_steps_by_hand(self):
        w, one, less = [0, 1], [1, 0], [-1, 1]
        rows = [(less, [w]), (one, [one, less, one]), (w, [w, one, w])]
        self.assertEqual(pieces(1, [-1, 0, 1, 0]), flat(rows))

    def test_several_rows_for_one_step_by_hand(self):
        least, one, long = [-2, 1], [1, 0], [3, -1]
        rows = [
            (least, [long, least, one, least]),
            (least, [one, least, long, least]),
            (long, [long, least, one, least, long, least]),
            (one, [long, least, one, least, long, least, one, least, long, least]),
        ]
        self.assertEqual(pieces(2, [-1, 0, -1, 2]), flat(rows))

    def test_small_windows(self):
        for m in helper.MS:
            for x, kept in helper.small_windows(m, 1):
                self.assertEqual(pieces(m, x), helper.expected_pieces(m, x), (m, x))

    def test_windows_of_all_lengths(self):
        for m in helper.MS:
            for x in helper.kept_windows(m):
                self.assertEqual(pieces(m, x), helper.expected_pieces(m, x), (m, x))

    def test_windows_of_large_whole_numbers(self):
        for m in helper.MS:
            for x in helper.far_windows(m):
                self.assertEqual(pieces(m, x), helper.expected_pieces(m, x), (m, x))

    def test_windows_here_have_two_and_three_steps_and_several_rows_for_one(self):
        for m in helper.MS:
            steps = set()
            rows = set()
            for x in helper.kept_windows(m):
                told = [step for step, row in helper.read_pieces(pieces(m, x))]
                different = {tuple(step) for step in told}
                steps.add(len(different))
                rows.add(len(told) - len(different))
            self.assertEqual(steps, {2, 3}, m)
            self.assertLessEqual({0, 1, 2}, rows, m)

    def test_answer_is_a_list_of_whole_numbers(self):
        for x in ([0, 0, 1, 0], [1, 0, 2, 0], []):
            answer = pieces(1, x)
            self.assertIs(type(answer), list)
            self.assertEqual({type(number) for number in answer}, {int})


class WhatHolds(unittest.TestCase):
    def windows(self, m):
        return helper.kept_windows(m)[::4] + helper.far_windows(m)[::3]

    def test_steps_together_are_the_step_made_larger(self):
        for m in helper.MS:
            for x in helper.kept_windows(m) + helper.far_windows(m):
                for step, row in helper.read_pieces(pieces(m, x)):
                    together = [sum(part[0] for part in row), sum(part[1] for part in row)]
                    self.assertEqual(together, helper.times_square(m, step), (m, x))

    def test_each_row_is_the_piece_of_some_point(self):
        for m in helper.MS:
            for x in self.windows(m):
                told = helper.read_pieces(pieces(m, x))
                found = []
                for z in helper.witnesses(m, x):
                    # A point for a row may lie beyond what may be handed in.
                    if max(map(abs, z)) <= helper.TOP:
                        found.append((helper.expected_step(m, x, z), helper.read_row(piece(m, x, z))))
                    else:
                        found.append((helper.expected_step(m, x, z), helper.expected_row(m, x, z)))
                for one in told:
                    self.assertIn(one, found, (m, x))
                for one in found:
                    self.assertIn(one, told, (m, x))

    def test_points_one_behind_another_have_just_these_pieces(self):
        for m in helper.MS:
            for x in ([0, 0, 1, 0], [-1, 0, 1, 0], [-1, 0, 0, 0], [0, 0, 0, 1], [-1, 0, -1, m]):
                points = helper.points_between(m, x, [0, 0], [60, 60])
                found = []
                for k in range(len(points) - 1):
                    found.append((helper.minus(points[k + 1], points[k]), helper.read_row(piece(m, x, points[k]))))
                told = helper.read_pieces(pieces(m, x))
                self.assertEqual([one for one in told if one not in found], [], (m, x))
                self.assertEqual([one for one in found if one not in told], [], (m, x))

    def test_no_row_is_told_twice(self):
        for m in helper.MS:
            for x in helper.kept_windows(m) + helper.far_windows(m):
                told = helper.read_pieces(pieces(m, x))
                self.assertEqual([k for k in range(len(told)) if told[k] in told[:k]], [], (m, x))

    def test_order(self):
        for m in helper.MS:
            for x in helper.kept_windows(m) + helper.far_windows(m):
                told = [[step] + row for step, row in helper.read_pieces(pieces(m, x))]
                places = [[helper.value(m, *step) for step in row] for row in told]
                self.assertEqual(places, sorted(places), (m, x))


class Corners(unittest.TestCase):
    def test_window_from_zero_on_and_one_up_to_zero(self):
        for m in helper.MS:
            for x in ([0, 0, 1, 0], [-1, 0, 0, 0], [0, 0, 0, 1], [0, -1, 0, 0], [0, 0, 0, m], [0, -m, 0, 0]):
                answer = pieces(m, x)
                self.assertGreater(answer[0], 1, (m, x))
                self.assertEqual(answer, helper.expected_pieces(m, x), (m, x))

    def test_window_that_keeps_nothing(self):
        for m in helper.MS:
            tiny = helper.tiny(m, helper.TOP - 2)
            ahead = helper.minus([0, 0], tiny)
            self.assertEqual(pieces(m, tiny + [2, 0]), [-33])
            self.assertEqual(pieces(m, [-2, 0] + ahead), [-33])
            self.assertEqual(pieces(m, ahead + [2, 0]), helper.expected_pieces(m, ahead + [2, 0]))
            self.assertEqual(pieces(m, [-2, 0] + tiny), helper.expected_pieces(m, [-2, 0] + tiny))

    def test_length_near_one(self):
        for m in helper.MS:
            tiny = helper.tiny(m, helper.TOP - 20)
            longer = [0, 0] + helper.plus([1, 0], tiny)
            self.assertEqual(pieces(m, [0, 0, 1, 0])[0], 2)
            self.assertEqual(pieces(m, longer), helper.expected_pieces(m, longer))
            self.assertEqual(pieces(m, [0, 0] + helper.minus([1, 0], tiny)), [-22])

    def test_length_near_w_w(self):
        for m in helper.MS:
            tiny = helper.tiny(m, helper.TOP - 20)
            shorter = helper.minus([1, m], tiny)
            half = helper.tiny(m, helper.TOP // 2 - 20)
            about = helper.minus([0, 0], half) + helper.minus(helper.minus([1, m], half), half)
            self.assertEqual(pieces(m, [0, 0] + shorter), helper.expected_pieces(m, [0, 0] + shorter))
            self.assertEqual(pieces(m, about), helper.expected_pieces(m, about))
            self.assertEqual(pieces(m, [0, 0, 1, m]), [-22])
            self.assertEqual(pieces(m, [0, 0] + helper.plus([1, m], tiny)), [-22])


if __name__ == "__main__":
    unittest.main()
