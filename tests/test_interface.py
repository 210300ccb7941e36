"""What the document says of every call: kinds, nothing changed, nothing kept, nothing printed."""

import ast
import contextlib
import inspect
import io
import pathlib
import unittest

from fourfixed import vectors

LEAST = -2**31
GREATEST = 2**31 - 1

PACKAGE = pathlib.Path(vectors.__file__).resolve().parent

TWO_VECTORS = ["sum_of", "difference", "product"]

PAIRS = [
    ([65536, -131072, 3, 4], [5, 65536, -7, 98304]),
    ([0, 0, 0, 0], [0, 0, 0, 0]),
    ([GREATEST, LEAST, GREATEST, LEAST], [GREATEST, LEAST, LEAST, GREATEST]),
    ([-1, -1, 1, 1], [32768, 32769, 32768, 32767]),
]


class Unchanging(list):
    """A list that fails when it is changed, even if it were changed back."""

    def refuse(self, *args, **kwargs):
        raise AssertionError("what is handed in is changed")

    __setitem__ = __delitem__ = __iadd__ = __imul__ = refuse
    append = extend = insert = pop = remove = clear = reverse = sort = refuse


def call(name, a, b):
    return getattr(vectors, name)(a, b)


class TwoVectors(unittest.TestCase):
    def each(self):
        return [(name, list(a), list(b)) for name in TWO_VECTORS for a, b in PAIRS]

    def test_arguments(self):
        for name in TWO_VECTORS:
            self.assertEqual(list(inspect.signature(getattr(vectors, name)).parameters), ["a", "b"], name)

    def test_arguments_by_name(self):
        for name, a, b in self.each():
            self.assertEqual(getattr(vectors, name)(b=b, a=a), call(name, a, b))

    def test_list_of_five_whole_numbers_that_begins_with_0(self):
        for name, a, b in self.each():
            answer = call(name, a, b)
            self.assertIs(type(answer), list)
            self.assertEqual([type(number) for number in answer], [int] * 5)
            self.assertEqual(answer[0], 0)
            for number in answer:
                self.assertTrue(LEAST <= number <= GREATEST)

    def test_what_is_handed_in_stays(self):
        for name, a, b in self.each():
            before = (list(a), list(b))
            call(name, a, b)
            self.assertEqual((a, b), before)

    def test_what_is_handed_in_is_not_changed_for_a_while(self):
        for name, a, b in self.each():
            self.assertEqual(call(name, Unchanging(a), Unchanging(b)), call(name, a, b))

    def test_same_list_as_both(self):
        for name, a, b in self.each():
            before = list(a)
            self.assertEqual(call(name, a, a), call(name, before, list(before)))
            self.assertEqual(a, before)

    def test_same_list_as_both_by_value(self):
        a = [131072, -131072, 3, LEAST]
        self.assertEqual(vectors.sum_of(a, a), [0, 262144, -262144, 6, LEAST])
        self.assertEqual(vectors.difference(a, a), [0, 0, 0, 0, 0])
        self.assertEqual(vectors.product(a, a), [0, 262144, 262144, 0, GREATEST])

    def test_answer_is_a_list_of_its_own(self):
        for name, a, b in self.each():
            before = (list(a), list(b))
            answer = call(name, a, b)
            expected = list(answer)
            answer[0] = 99
            answer[1:] = [77] * 9
            self.assertEqual((a, b), before)
            self.assertEqual(call(name, a, b), expected)

    def test_changing_what_was_handed_in_leaves_the_answer(self):
        for name, a, b in self.each():
            answer = call(name, a, b)
            expected = list(answer)
            a[0] = 12345
            b.clear()
            self.assertEqual(answer, expected)

    def test_same_answer_whatever_was_called_before(self):
        calls = self.each()
        first = {}
        for place, (name, a, b) in enumerate(calls):
            first[place] = call(name, list(a), list(b))
        for before in calls:
            for place, (name, a, b) in enumerate(calls):
                call(before[0], list(before[1]), list(before[2]))
                self.assertEqual(call(name, list(a), list(b)), first[place], (before, name, a, b))

    def test_prints_nothing(self):
        for name, a, b in self.each():
            out, err = io.StringIO(), io.StringIO()
            with contextlib.redirect_stdout(out), contextlib.redirect_stderr(err):
                call(name, a, b)
            self.assertEqual((out.getvalue(), err.getvalue()), ("", ""))


class Source(unittest.TestCase):
    def sources(self):
        return sorted(PACKAGE.rglob("*.py"))

    def test_nothing_but_sources_lies_in_the_package(self):
        files = [path for path in PACKAGE.rglob("*") if path.is_file() and path.parent.name != "__pycache__"]
        self.assertEqual(sorted(files), self.sources())
        self.assertIn(PACKAGE / "__init__.py", files)

    def test_imports_reads_and_prints_nothing(self):
        for path in self.sources():
            for node in ast.walk(ast.parse(path.read_text(encoding="ascii"))):
                self.assertNotIsInstance(node, (ast.Import, ast.ImportFrom), path)
                if isinstance(node, ast.Name):
                    self.assertNotIn(node.id, ("print", "open", "input", "eval", "exec", "__import__"), path)

    def test_sizes(self):
        for path in self.sources():
            text = path.read_text(encoding="ascii")
            self.assertNotIn("\t", text)
            self.assertLessEqual(len(text.splitlines()), 400)
            self.assertLessEqual(max(len(row) for row in text.splitlines()), 120)
            for node in ast.walk(ast.parse(text)):
                if isinstance(node, ast.FunctionDef):
                    self.assertLessEqual(node.end_lineno - node.lineno + 1, 40, node.name)


if __name__ == "__main__":
    unittest.main()
