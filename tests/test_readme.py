"""The examples in README.md answer what it says."""

import ast
import pathlib
import unittest

from fourfixed import vectors

CALLS = ["sum_of", "difference", "product", "quotient", "between", "dot", "cross", "length", "unit", "pick", "outside",
         "apply", "compose", "turn", "all_points", "bounds"]

README = pathlib.Path(__file__).resolve().parent.parent / "README.md"


def examples():
    """Each example of README.md: a call's name, what is handed in, and the answer told behind it or in the row below."""
    code = README.read_text(encoding="utf-8").split("```python\n")[1].split("```")[0]
    calls = [node.value for node in ast.parse(code).body if isinstance(node, ast.Expr)]
    answers = [row.split("#")[1] for row in code.splitlines() if "#" in row]
    for node, answer in zip(calls, answers, strict=True):
        yield node.func.id, [ast.literal_eval(value) for value in node.args], ast.literal_eval(answer.strip())


class Readme(unittest.TestCase):
    def test_examples(self):
        rows = list(examples())
        self.assertGreater(len(rows), 0)
        for name, handed, answer in rows:
            self.assertEqual(getattr(vectors, name)(*handed), answer, name)

    def test_every_call_has_an_example_and_a_row(self):
        text = README.read_text(encoding="utf-8")
        shown = [name for name, _, _ in examples()]
        for name in CALLS:
            self.assertIn(name, shown)
            self.assertIn(f"| `{name}(", text)


if __name__ == "__main__":
    unittest.main()
