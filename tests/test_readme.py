"""README.md tells how to use the program and how to run its tests, and what its examples tell is so."""

import ast
import re
import unittest
from pathlib import Path

from test_interface import DESK, INTERFACE

TEXT = (Path(__file__).resolve().parent.parent / "README.md").read_text()


class ReadmeTest(unittest.TestCase):
    def test_examples(self):
        # Each goes on where the one before ended, row by row: what a desk tells depends on what was done.
        names = {}
        for example in re.findall(r"```python\n(.*?)```", TEXT, re.S):
            many = 0
            for row in ast.parse(example).body:
                asked = ast.get_source_segment(example, row)
                remark = re.match(r" +# (.+)", example.split("\n")[row.end_lineno - 1][row.end_col_offset:])
                if isinstance(row, ast.Expr) and remark:
                    many += 1
                    answer = repr(eval(asked, names))
                    with self.subTest(asked):
                        self.assertEqual((remark[1] + ": ")[:len(answer) + 2], answer + ": ")
                else:
                    exec(asked, names)
            self.assertGreater(many, 5)

    def test_how_to_run_the_tests(self):
        self.assertIn("## Tests", TEXT)
        self.assertIn("bash .ci/run", TEXT)

    def test_every_module_is_named(self):
        for path in (Path(__file__).resolve().parent.parent / "wearplan").glob("[a-z]*.py"):
            self.assertIn(f"`wearplan.{path.stem}`", TEXT)

    def test_every_function_of_the_interface_is_named_with_its_arguments(self):
        for names in (*INTERFACE.values(), DESK):
            for name, arguments in names.items():
                if not name.startswith(("No", "Shut", "Falls", "Too")):
                    self.assertIn(f"`{name}({', '.join(arguments.split())})`", TEXT)


if __name__ == "__main__":
    unittest.main()
