"""What holds over the whole program: each call by itself, and nothing handed in is changed."""

import ast
import contextlib
import io
import pathlib
import unittest

from helper import MOST, TOO_FEW, chart, numbers, one_row

PACKAGE = pathlib.Path(__file__).resolve().parent.parent / "knitrows"

PATTERNS = (
    one_row(5, "k,*(p,yo)"),
    one_row(5, "k6"),
    one_row(5, "cf 4,*((k)1)"),
    "cast 5\nrow *(k)\nagain 1-1\noff\nrow k",
    "cast 5\nrow *(k),kf",
    "cast 3\nrow k,(sl)2\nagain 1-1\noff",
    "",
)


class Untouched(list):
    """A list that fails whatever would change it, if only for a while."""

    def refuse(self, *values, **named):
        raise AssertionError("what was handed in was changed")

    append = extend = insert = pop = remove = clear = sort = reverse = refuse
    __setitem__ = __delitem__ = __iadd__ = __imul__ = refuse


class Calls(unittest.TestCase):
    def test_what_is_handed_in_stays_as_it_was(self):
        for pattern in PATTERNS:
            text = numbers(pattern)
            before = list(text)
            chart(MOST, text)
            self.assertEqual(text, before)

    def test_what_is_handed_in_is_not_changed_for_a_while_either(self):
        for pattern in PATTERNS:
            self.assertEqual(chart(MOST, Untouched(numbers(pattern))), chart(MOST, numbers(pattern)))

    def test_each_call_is_as_if_for_the_first_time(self):
        first = [chart(MOST, numbers(pattern)) for pattern in PATTERNS]
        for before in PATTERNS:
            for pattern, answer in zip(PATTERNS, first):
                chart(MOST, numbers(before))
                chart(-1, numbers(before))
                self.assertEqual(chart(MOST, numbers(pattern)), answer)

    def test_what_is_answered_is_not_kept(self):
        answer = chart(MOST, numbers(PATTERNS[0]))
        again = list(answer)
        answer.clear()
        self.assertEqual(chart(MOST, numbers(PATTERNS[0])), again)

    def test_kinds(self):
        for pattern in PATTERNS:
            for most in (-1, 0, MOST):
                answer = chart(most, numbers(pattern))
                self.assertIs(type(answer), list)
                self.assertEqual({type(number) for number in answer}, {int})

    def test_arguments_by_name(self):
        self.assertEqual(chart(most=MOST, text=numbers("cast 1\nrow k\noff")), [6] + numbers("k\nk 1\n"))
        self.assertEqual(chart(text=numbers("cast 1\nrow k2\noff"), most=0), [TOO_FEW - 2])

    def test_a_refusal_stands_alone(self):
        for most, pattern in ((-1, PATTERNS[0]), (0, PATTERNS[0]), (MOST, PATTERNS[1]), (MOST, "")):
            self.assertEqual(len(chart(most, numbers(pattern))), 1)

    def test_it_prints_nothing(self):
        out, err = io.StringIO(), io.StringIO()
        with contextlib.redirect_stdout(out), contextlib.redirect_stderr(err):
            for pattern in PATTERNS:
                chart(MOST, numbers(pattern))
        self.assertEqual(out.getvalue() + err.getvalue(), "")


class Source(unittest.TestCase):
    def test_it_imports_nothing(self):
        for path in sorted(PACKAGE.glob("*.py")):
            for node in ast.walk(ast.parse(path.read_text())):
                self.assertNotIsInstance(node, (ast.Import, ast.ImportFrom), path.name)

    def test_sizes_and_signs(self):
        for path in sorted(PACKAGE.glob("*.py")):
            source = path.read_text()
            self.assertTrue(all(" " <= sign <= "~" or sign == "\n" for sign in source), path.name)
            lines = source.split("\n")
            self.assertLessEqual(len(lines) - 1, 400, path.name)
            self.assertLessEqual(max(len(line) for line in lines), 120, path.name)
            for node in ast.walk(ast.parse(source)):
                if isinstance(node, ast.FunctionDef):
                    self.assertLessEqual(node.end_lineno - node.lineno + 1, 40, node.name)


if __name__ == "__main__":
    unittest.main()
