"""What the interface says of every call, and what the package's files may hold."""

import ast
import contextlib
import io
import pathlib
import sys
import unittest
from unittest import mock

import helper
import madelarger.windows
from madelarger.windows import keeps, large

PACKAGE = pathlib.Path(madelarger.windows.__file__).parent
WINDOWS = ([0, 0, 1, 0], [1, 0, 2, 0], [-1, 0, 0, 1], [0, 0, 0, 0], [], [helper.FARTHEST] * 8)
NUMBERS = ([0, 0], [1, 1], [0, 7], [], [-helper.FARTHEST] * 8)


def inputs():
    return [(m, x, z) for m in helper.MS + helper.WRONG_MS for x in WINDOWS for z in NUMBERS]


def answers():
    return [(keeps(m, x), large(m, x, z)) for m, x, z in inputs()]


class Calls(unittest.TestCase):
    def test_names_and_arguments(self):
        self.assertEqual(madelarger.windows.keeps(m=1, x=[0, 0, 1, 0]), [1])
        self.assertEqual(madelarger.windows.large(m=1, x=[0, 0, 1, 0], z=[1, 1]), [0, 2, 3])

    def test_what_is_handed_in_stays_as_it_was(self):
        for m, x, z in inputs():
            window = helper.Untouched(x)
            number = helper.Untouched(z)
            self.assertEqual(keeps(m, window), keeps(m, x))
            self.assertEqual(large(m, window, number), large(m, x, z))
            self.assertEqual(list(window), x)
            self.assertEqual(list(number), z)

    def test_second_call_answers_like_the_first(self):
        first = answers()
        self.assertEqual(answers(), first)
        self.assertEqual(list(reversed([(keeps(m, x), large(m, x, z)) for m, x, z in reversed(inputs())])), first)

    def test_answer_is_the_callers_own(self):
        x = [0, 0, 1, 0]
        z = [1, 1]
        large(1, x, z).append(9)
        keeps(1, x).append(9)
        self.assertEqual(large(1, x, z), [0, 2, 3])
        self.assertEqual(keeps(1, x), [1])
        self.assertEqual((x, z), ([0, 0, 1, 0], [1, 1]))

    def test_refusal_is_its_number_alone(self):
        for answer in [answer for pair in answers() for answer in pair]:
            if answer[0] < 0:
                self.assertIn(answer, ([-22], [-33], [-2]))
        for m, x, z in inputs():
            self.assertIn(keeps(m, x), ([0], [1], [-22]))

    def test_nothing_is_printed_or_read(self):
        out = io.StringIO()
        with contextlib.redirect_stdout(out), contextlib.redirect_stderr(out), mock.patch.object(sys, "stdin", None):
            answers()
        self.assertEqual(out.getvalue(), "")


class Files(unittest.TestCase):
    def trees(self):
        return [(path, ast.parse(path.read_text())) for path in sorted(PACKAGE.rglob("*.py"))]

    def nodes(self):
        return [(path, node) for path, tree in self.trees() for node in ast.walk(tree)]

    def test_nothing_is_imported(self):
        for path, node in self.nodes():
            self.assertNotIsInstance(node, (ast.Import, ast.ImportFrom), path)

    def test_whole_numbers_alone(self):
        for path, node in self.nodes():
            self.assertNotIsInstance(node, ast.Div, path)
            if isinstance(node, ast.Constant):
                self.assertIn(type(node.value), (int, str, bool, type(None)), path)

    def test_size_and_signs(self):
        for path, tree in self.trees():
            lines = path.read_text().split("\n")
            self.assertLessEqual(len(lines), 400, path)
            for line in lines:
                self.assertLessEqual(len(line), 120, path)
                self.assertTrue(all(" " <= sign <= "~" for sign in line), (path, line))
            for node in ast.walk(tree):
                if isinstance(node, ast.FunctionDef):
                    self.assertLessEqual(node.end_lineno - node.lineno + 1, 40, (path, node.name))


if __name__ == "__main__":
    unittest.main()
