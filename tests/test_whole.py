"""Promise 2 over the whole program: what the calls answer fits together, each told by the others."""

import unittest

import helper
from madelarger.windows import depth, keeps, large, parent, piece, pieces, window


def windows(m):
    """Windows that keep their points: of all lengths, also from 0 on and up to 0, and of large whole numbers."""
    small = [x for x, kept in helper.small_windows(m, 1) if kept == [1]]
    return small + helper.kept_windows(m)[::4] + helper.far_windows(m)[::3]


def points(m, x):
    """Points of the window x near 0 and near a million."""
    found = helper.points_between(m, x, [-3, -1], [3, 1])
    return found + helper.points_near_a_million(m, x, 1) + helper.points_near_a_million(m, x, -1)


def handed(z):
    return max(map(abs, z)) <= helper.TOP


class KeptPoints(unittest.TestCase):
    def test_each_point_made_larger_is_a_point(self):
        for m in helper.MS:
            for x in windows(m):
                self.assertEqual(keeps(m, x), [1])
                for z in points(m, x):
                    answer = large(m, x, z)
                    self.assertEqual((len(answer), answer[0]), (3, 0), (m, x, z))
                    self.assertTrue(helper.in_window(m, x, answer[1:]), (m, x, z))
                    if handed(answer[1:]):
                        self.assertEqual(large(m, x, answer[1:])[0], 0, (m, x, z))

    def test_points_with_partners_in_the_smaller_window_are_just_those(self):
        for m in helper.MS:
            found = []
            for x in windows(m):
                smaller = window(m, x)[1:]
                for z in points(m, x) + helper.points_at_ends(m, smaller):
                    inside = helper.in_window(m, x, z) and helper.in_window(m, smaller, z)
                    # If z is some point made larger, it's this one.
                    source = helper.over_square(m, z)
                    if handed(source):
                        self.assertEqual(large(m, x, source), [0] + z if inside else [-2], (m, x, z))
                    if helper.in_window(m, x, z):
                        found.append(inside)
                        self.assertEqual(depth(m, x, z)[0] > 0, inside, (m, x, z))
                        self.assertEqual(parent(m, x, z)[1:] == source, inside, (m, x, z))
            self.assertGreater(min(found.count(True), found.count(False)), 100, m)

    def test_window_that_does_not_keep_is_told_but_its_points_are_refused(self):
        for m in helper.MS:
            for x in [x for x, kept in helper.small_windows(m, 2) if kept == [0]]:
                self.assertEqual(keeps(m, x), [0], (m, x))
                self.assertEqual(window(m, x), [0] + helper.smaller_window(m, x), (m, x))
                self.assertEqual(pieces(m, x), [-33], (m, x))
                for call in (large, piece, parent, depth):
                    self.assertEqual(call(m, x, helper.partner_of(m, x[:2])), [-33], (call, m, x))
                    self.assertEqual(call(m, x, helper.partner_of(m, x[2:])), [-33], (call, m, x))


class Pieces(unittest.TestCase):
    def test_steps_together_are_the_step_made_larger_and_it_is_one_of_all_pieces(self):
        for m in helper.MS:
            for x in windows(m):
                told = helper.read_pieces(pieces(m, x))
                for z in points(m, x):
                    step = helper.expected_step(m, x, z)
                    row = helper.read_row(piece(m, x, z))
                    together = [sum(part[0] for part in row), sum(part[1] for part in row)]
                    self.assertEqual(together, helper.times_square(m, step), (m, x, z))
                    self.assertIn((step, row), told, (m, x, z))

    def test_whole_grows_from_a_few_points_by_putting_rows_for_steps(self):
        for m in helper.MS:
            for x in windows(m)[::2]:
                row = helper.points_between(m, x, [-2, 0], [2, 0])
                place = large(m, x, row[0])[1:]
                grown = [place]
                for z in row[:-1]:
                    for step in helper.read_row(piece(m, x, z)):
                        place = helper.plus(place, step)
                        grown.append(place)
                self.assertEqual(place, large(m, x, row[-1])[1:], (m, x))
                self.assertEqual(grown, helper.points_between(m, x, grown[0], grown[-1]), (m, x))


class Parents(unittest.TestCase):
    def test_parent_made_larger_is_not_beyond_but_the_next_one_is(self):
        for m in helper.MS:
            for x in windows(m):
                for z in points(m, x):
                    found = parent(m, x, z)[1:]
                    place = helper.value(m, *z)
                    self.assertFalse(helper.below(place, helper.value(m, *large(m, x, found)[1:])), (m, x, z))
                    following = helper.plus(found, helper.expected_step(m, x, found))
                    self.assertTrue(helper.in_window(m, x, following), (m, x, z))
                    beyond = helper.value(m, *helper.times_square(m, following))
                    self.assertTrue(helper.below(place, beyond), (m, x, z))

    def test_point_lies_on_its_parents_piece(self):
        for m in helper.MS:
            for x in windows(m)[::2]:
                for z in points(m, x):
                    found = parent(m, x, z)[1:]
                    place = large(m, x, found)[1:]
                    passed = [place]
                    for step in helper.read_row(piece(m, x, found)):
                        place = helper.plus(place, step)
                        passed.append(place)
                    self.assertIn(z, passed[:-1], (m, x, z))


if __name__ == "__main__":
    unittest.main()
