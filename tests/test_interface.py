"""What the document says of every call: kinds, nothing changed, nothing kept, nothing printed."""

import ast
import contextlib
import inspect
import io
import pathlib
import unittest

from fourfixed import vectors

LEAST = -2**31
GREATEST = 2**31 - 1

PACKAGE = pathlib.Path(vectors.__file__).resolve().parent

PAIRS = [
    ([65536, -131072, 3, 4], [5, 65536, -7, 98304]),
    ([0, 0, 0, 0], [0, 0, 0, 0]),
    ([GREATEST, LEAST, GREATEST, LEAST], [GREATEST, LEAST, LEAST, GREATEST]),
    ([-1, -1, 1, 1], [32768, 32769, 32768, 32767]),
]

ONES = [(a,) for pair in PAIRS for a in pair] + [([0, 0, 0, w],) for w in (7, -7)]

PARTS = [(t, a, b) for t in (32768, LEAST) for a, b in PAIRS]

CHOICES = [(a, b, which) for a, b in PAIRS for which in ([0, 5, 2, 7], [-1, 8, LEAST, GREATEST])]

MATRICES = [
    [65536 * number for number in range(1, 17)],
    [-1, 2, -3, 4, 65535, -65537, 0, 1, GREATEST, LEAST, 7, -7, 32768, -32768, 5, 6],
    [LEAST] * 16,
]

MOVES = [(m, p) for m in MATRICES for (p,) in ONES]

COMPOSED = [(a, b) for a in MATRICES for b in MATRICES]

POINTS = [[], [5, 65536, -7, 98304], [1, 2, 3, 4, -5, 6, -7, 8, LEAST, 0, GREATEST, 0], MATRICES[1]]

ALL_MOVES = [(m, p) for m in MATRICES for p in POINTS]

# A call's name: its arguments' names, what is handed in for them, how many numbers it answers
# (where that hangs on what is handed in: by this).
CALLS = {
    "sum_of": (["a", "b"], PAIRS, 5),
    "difference": (["a", "b"], PAIRS, 5),
    "product": (["a", "b"], PAIRS, 5),
    "quotient": (["a", "b"], PAIRS, 5),
    "between": (["t", "a", "b"], PARTS, 5),
    "dot": (["a", "b"], PAIRS, 1),
    "cross": (["a", "b"], PAIRS, 5),
    "length": (["a"], ONES, 1),
    "unit": (["a"], ONES, 5),
    "pick": (["a", "b", "which"], CHOICES, 5),
    "outside": (["p"], ONES, 1),
    "apply": (["m", "p"], MOVES, 5),
    "compose": (["a", "b"], COMPOSED, 17),
    "turn": (["m"], [(m,) for m in MATRICES], 17),
    "all_points": (["m", "p"], ALL_MOVES, lambda m, p: 1 + len(p)),
    "bounds": (["p"], [(p,) for p in POINTS], lambda p: 9 if p else 1),
}

# What these answer first is not a 0 that the rest stands behind.
NUMBER_FIRST = ["dot", "length", "outside", "bounds"]


class Unchanging(list):
    """A list that fails when it is changed, even if it were changed back."""

    def refuse(self, *args, **kwargs):
        raise AssertionError("what is handed in is changed")

    __setitem__ = __delitem__ = __iadd__ = __imul__ = refuse
    append = extend = insert = pop = remove = clear = reverse = sort = refuse


def copied(handed, kind=list):
    """Copies of what is handed in, of the lists among it."""
    return [kind(value) if isinstance(value, list) else value for value in handed]


def each():
    """Each call's name with each row of what is handed in, as fresh lists."""
    return [(name, copied(handed)) for name, (_, rows, _) in CALLS.items() for handed in rows]


def call(name, handed):
    return getattr(vectors, name)(*handed)


def how_many(name, handed):
    told = CALLS[name][2]
    return told(*handed) if callable(told) else told


def with_one_list_for_all(handed):
    """One and the same list wherever a list of its length is handed in."""
    first = {}
    return [first.setdefault(len(value), value) if isinstance(value, list) else value for value in handed]


class EachCall(unittest.TestCase):
    def test_all_sixteen(self):
        self.assertEqual(len(CALLS), 16)

    def test_arguments(self):
        for name, (arguments, _, _) in CALLS.items():
            parameters = inspect.signature(getattr(vectors, name)).parameters.values()
            self.assertEqual([parameter.name for parameter in parameters], arguments, name)
            for parameter in parameters:
                self.assertIs(parameter.kind, inspect.Parameter.POSITIONAL_OR_KEYWORD, name)
                self.assertIs(parameter.default, inspect.Parameter.empty, name)

    def test_arguments_by_name(self):
        for name, handed in each():
            by_name = dict(reversed(list(zip(CALLS[name][0], handed))))
            self.assertEqual(getattr(vectors, name)(**by_name), call(name, handed))

    def test_list_of_as_many_whole_numbers_as_told(self):
        for name, handed in each():
            answer = call(name, handed)
            self.assertIs(type(answer), list, name)
            self.assertEqual([type(number) for number in answer], [int] * how_many(name, handed), name)

    def test_what_stands_behind_a_0_are_numbers(self):
        for name, handed in each():
            if name not in NUMBER_FIRST:
                answer = call(name, handed)
                self.assertEqual(answer[0], 0, name)
                for number in answer:
                    self.assertTrue(LEAST <= number <= GREATEST, name)

    def test_what_is_handed_in_stays(self):
        for name, handed in each():
            before = copied(handed)
            call(name, handed)
            self.assertEqual(handed, before, name)

    def test_what_is_handed_in_is_not_changed_for_a_while(self):
        for name, handed in each():
            self.assertEqual(call(name, copied(handed, Unchanging)), call(name, handed), name)

    def test_same_list_more_than_once(self):
        for name, handed in each():
            one = with_one_list_for_all(handed)
            before = copied(one)
            self.assertEqual(call(name, one), call(name, before), name)
            self.assertEqual(one, before, name)

    def test_answer_is_a_list_of_its_own(self):
        for name, handed in each():
            before = copied(handed)
            answer = call(name, handed)
            for value in handed:
                self.assertIsNot(answer, value, name)
            expected = list(answer)
            answer[0] = 99
            answer[1:] = [77] * 9
            self.assertEqual(handed, before, name)
            self.assertEqual(call(name, handed), expected, name)

    def test_changing_what_was_handed_in_leaves_the_answer(self):
        for name, handed in each():
            answer = call(name, handed)
            expected = list(answer)
            for value in handed:
                if isinstance(value, list):
                    value.reverse()
                    value.append(12345)
            self.assertEqual(answer, expected, name)

    def test_same_answer_whatever_was_called_before(self):
        calls = each()
        first = [call(name, copied(handed)) for name, handed in calls]
        for before in calls:
            for place, (name, handed) in enumerate(calls):
                call(before[0], copied(before[1]))
                self.assertEqual(call(name, copied(handed)), first[place], (before, name, handed))

    def test_same_answers_in_another_order(self):
        calls = each()
        first = [call(name, copied(handed)) for name, handed in calls]
        places = list(range(len(calls)))
        # Backwards, in strides that bring other calls side by side, and as at first.
        for order in (places[::-1], sorted(places, key=lambda place: place * 37 % len(places)), places):
            for place in order:
                name, handed = calls[place]
                self.assertEqual(call(name, copied(handed)), first[place], (name, handed))

    def test_prints_nothing(self):
        for name, handed in each():
            out, err = io.StringIO(), io.StringIO()
            with contextlib.redirect_stdout(out), contextlib.redirect_stderr(err):
                call(name, handed)
            self.assertEqual((out.getvalue(), err.getvalue()), ("", ""), name)


class SameListAsBoth(unittest.TestCase):
    def test_by_value(self):
        a = [131072, -131072, 3, LEAST]
        self.assertEqual(vectors.sum_of(a, a), [0, 262144, -262144, 6, LEAST])
        self.assertEqual(vectors.difference(a, a), [0, 0, 0, 0, 0])
        self.assertEqual(vectors.product(a, a), [0, 262144, 262144, 0, GREATEST])
        self.assertEqual(vectors.quotient(a, a), [0, 65536, 65536, 65536, 65536])
        self.assertEqual(vectors.between(12345, a, a), [0, 131072, -131072, 3, LEAST])
        self.assertEqual(vectors.dot(a, a), [2**46 + 2**19])
        self.assertEqual(vectors.cross(a, a), [0, 0, 0, 0, 0])
        self.assertEqual(vectors.pick(a, a, a), [0, 131072, 131072, LEAST, 131072])
        self.assertEqual(a, [131072, -131072, 3, LEAST])


class Source(unittest.TestCase):
    def sources(self):
        return sorted(PACKAGE.rglob("*.py"))

    def test_nothing_but_sources_lies_in_the_package(self):
        files = [path for path in PACKAGE.rglob("*") if path.is_file() and path.parent.name != "__pycache__"]
        self.assertEqual(sorted(files), self.sources())
        self.assertIn(PACKAGE / "__init__.py", files)

    def test_imports_reads_and_prints_nothing(self):
        for path in self.sources():
            for node in ast.walk(ast.parse(path.read_text(encoding="ascii"))):
                self.assertNotIsInstance(node, (ast.Import, ast.ImportFrom), path)
                if isinstance(node, ast.Name):
                    self.assertNotIn(node.id, ("print", "open", "input", "eval", "exec", "__import__"), path)

    def test_sizes(self):
        for path in self.sources():
            text = path.read_text(encoding="ascii")
            self.assertNotIn("\t", text)
            self.assertLessEqual(len(text.splitlines()), 400)
            self.assertLessEqual(max(len(row) for row in text.splitlines()), 120)
            for node in ast.walk(ast.parse(text)):
                if isinstance(node, ast.FunctionDef):
                    self.assertLessEqual(node.end_lineno - node.lineno + 1, 40, node.name)


if __name__ == "__main__":
    unittest.main()
