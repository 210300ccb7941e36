"""The examples in README.md answer what it says."""

import ast
import pathlib
import unittest

from fourfixed import vectors

README = pathlib.Path(__file__).resolve().parent.parent / "README.md"


def examples():
    """Each row of README.md's example: a call's name, what is handed in, and the answer it tells."""
    code = README.read_text(encoding="utf-8").split("```python\n")[1].split("```")[0]
    for row in code.splitlines():
        if "#" in row:
            written, answer = row.split("#")
            node = ast.parse(written.strip(), mode="eval").body
            yield node.func.id, [ast.literal_eval(value) for value in node.args], ast.literal_eval(answer.strip())


class Readme(unittest.TestCase):
    def test_examples(self):
        rows = list(examples())
        self.assertGreater(len(rows), 0)
        for name, handed, answer in rows:
            self.assertEqual(getattr(vectors, name)(*handed), answer, name)


if __name__ == "__main__":
    unittest.main()
