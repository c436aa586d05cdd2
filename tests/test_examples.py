"""Every example of the document, all sections, in their order and with the names that earlier ones made."""

import ast
import importlib
import unittest
from pathlib import Path

from tests.test_interface import CLASSES, FUNCTIONS

EXAMPLES = Path(__file__).resolve().parent / "examples.txt"


def names():
    """All that the interface lists."""
    found = {}
    for name in ("errors", *FUNCTIONS, *CLASSES):
        found.update(vars(importlib.import_module(f"spindleway.{name}")))
    return found


def examples():
    """The pairs of a line that is typed and of the line that is answered, None where there is none."""
    lines = [line for line in EXAMPLES.read_text(encoding="utf-8").splitlines() if line]
    for line, following in zip(lines, [*lines[1:], ">>> "]):
        if line.startswith(">>> "):
            yield line[4:], None if following.startswith(">>> ") else following


def raised(error):
    """An error as the document writes it."""
    fields = list(vars(error).values())
    return f"raises {type(error).__name__}({', '.join(repr(field) for field in fields)})"


class ExamplesTest(unittest.TestCase):
    def test_all(self):
        known = names()
        seen = 0
        for typed, answer in examples():
            with self.subTest(typed):
                seen += 1
                if isinstance(ast.parse(typed).body[0], ast.Assign):
                    self.assertIsNone(answer)
                    exec(typed, known)
                    continue
                try:
                    told = repr(eval(typed, known))
                except known["SolidError"] as error:
                    told = raised(error)
                self.assertEqual(told, answer)
        self.assertEqual(seen, 134)


if __name__ == "__main__":
    unittest.main()
