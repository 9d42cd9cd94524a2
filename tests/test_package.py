"""What the interface says of every call, and what the package's files may hold."""

import ast
import contextlib
import io
import pathlib
import sys
import unittest
from unittest import mock

import helper
import madelarger.windows
from madelarger.windows import depth, keeps, large, parent, piece, pieces, window

PACKAGE = pathlib.Path(madelarger.windows.__file__).parent
WINDOWS = ([0, 0, 1, 0], [1, 0, 2, 0], [-1, 0, 0, 1], [-1, 0, 1, 0], [0, 0, 0, 0], [], [helper.FARTHEST] * 8)
NUMBERS = ([0, 0], [1, 1], [0, 7], [], [-helper.FARTHEST] * 8)


def inputs():
    return [(m, x, z) for m in helper.MS + helper.WRONG_MS for x in WINDOWS for z in NUMBERS]


def called(m, x, z):
    """What every call answers."""
    of_window = [call(m, x) for call in (keeps, window, pieces)]
    return of_window + [call(m, x, z) for call in (large, piece, parent, depth)]


def answers():
    return [called(m, x, z) for m, x, z in inputs()]


class Calls(unittest.TestCase):
    def test_names_and_arguments(self):
        x = [0, 0, 1, 0]
        self.assertEqual(madelarger.windows.keeps(m=1, x=x), [1])
        self.assertEqual(madelarger.windows.large(m=1, x=x, z=[1, 1]), [0, 2, 3])
        self.assertEqual(madelarger.windows.piece(m=1, x=x, z=[2, 2]), [2, 1, 1, 0, 1])
        self.assertEqual(madelarger.windows.pieces(m=1, x=x)[:8], [2, 0, 1, 2, 1, 1, 0, 1])
        self.assertEqual(madelarger.windows.parent(m=1, x=x, z=[2, 2]), [0, 0, 0])
        self.assertEqual(madelarger.windows.depth(m=1, x=x, z=[2, 3]), [1])
        self.assertEqual(madelarger.windows.window(m=1, x=x), [0, 0, 0, 2, -1])

    def test_what_is_handed_in_stays_as_it_was(self):
        for m, x, z in inputs():
            ends = helper.Untouched(x)
            number = helper.Untouched(z)
            self.assertEqual(called(m, ends, number), called(m, x, z))
            self.assertEqual(list(ends), x)
            self.assertEqual(list(number), z)

    def test_second_call_answers_like_the_first(self):
        first = answers()
        self.assertEqual(answers(), first)
        self.assertEqual(list(reversed([called(m, x, z) for m, x, z in reversed(inputs())])), first)

    def test_answer_is_the_callers_own(self):
        for m in helper.MS:
            x = [0, 0, 1, 0]
            z = [0, 0]
            first = called(m, x, z)
            for answer in called(m, x, z):
                answer[0] = 9
                answer.append(9)
            self.assertEqual(called(m, x, z), first)
            self.assertEqual((x, z), ([0, 0, 1, 0], [0, 0]))

    def test_refusal_is_its_number_alone(self):
        for kept, smaller, whole, larger, row, above, deep in answers():
            self.assertIn(kept, ([0], [1], [-22]))
            if smaller != [-22]:
                self.assertEqual((len(smaller), smaller[0]), (5, 0))
            for answer in (whole, larger, row, above, deep):
                if answer[0] < 0:
                    self.assertIn(answer, ([-22], [-33], [-2]))
            self.assertNotEqual(whole, [-2])
            # What is refused of a point is refused by each call that takes one.
            self.assertEqual([answer for answer in (row, above, deep) if (answer[0] < 0) != (larger[0] < 0)], [])

    def test_nothing_is_printed_or_read(self):
        out = io.StringIO()
        with contextlib.redirect_stdout(out), contextlib.redirect_stderr(out), mock.patch.object(sys, "stdin", None):
            answers()
        self.assertEqual(out.getvalue(), "")


class Files(unittest.TestCase):
    def trees(self):
        return [(path, ast.parse(path.read_text())) for path in sorted(PACKAGE.rglob("*.py"))]

    def nodes(self):
        return [(path, node) for path, tree in self.trees() for node in ast.walk(tree)]

    def test_nothing_is_imported(self):
        for path, node in self.nodes():
            self.assertNotIsInstance(node, (ast.Import, ast.ImportFrom), path)

    def test_whole_numbers_alone(self):
        for path, node in self.nodes():
            self.assertNotIsInstance(node, ast.Div, path)
            if isinstance(node, ast.Constant):
                self.assertIn(type(node.value), (int, str, bool, type(None)), path)

    def test_size_and_signs(self):
        for path, tree in self.trees():
            lines = path.read_text().split("\n")
            self.assertLessEqual(len(lines), 400, path)
            for line in lines:
                self.assertLessEqual(len(line), 120, path)
                self.assertTrue(all(" " <= sign <= "~" for sign in line), (path, line))
            for node in ast.walk(tree):
                if isinstance(node, ast.FunctionDef):
                    self.assertLessEqual(node.end_lineno - node.lineno + 1, 40, (path, node.name))


if __name__ == "__main__":
    unittest.main()
