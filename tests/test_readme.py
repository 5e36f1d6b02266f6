"""README.md tells how to use the program and how to run its tests, and what its examples tell is so."""

import re
import unittest
from pathlib import Path

from test_interface import INTERFACE

TEXT = (Path(__file__).resolve().parent.parent / "README.md").read_text()


class ReadmeTest(unittest.TestCase):
    def test_examples(self):
        # Each goes on where the one before ended.
        names = {}
        for example in re.findall(r"```python\n(.*?)```", TEXT, re.S):
            exec(example, names)
            told = re.findall(r"^(\S.*?) +# ([^:\n]+)", example, re.M)
            self.assertGreater(len(told), 5)
            for asked, answer in told:
                with self.subTest(asked):
                    self.assertEqual(repr(eval(asked, names)), answer)

    def test_how_to_run_the_tests(self):
        self.assertIn("## Tests", TEXT)
        self.assertIn("bash .ci/run", TEXT)

    def test_every_module_is_named(self):
        for path in (Path(__file__).resolve().parent.parent / "wearplan").glob("[a-z]*.py"):
            self.assertIn(f"`wearplan.{path.stem}`", TEXT)

    def test_every_function_of_the_interface_is_named_with_its_arguments(self):
        for names in INTERFACE.values():
            for name, arguments in names.items():
                if not name.startswith(("No", "Shut", "Falls", "Too")):
                    self.assertIn(f"`{name}({', '.join(arguments.split())})`", TEXT)


if __name__ == "__main__":
    unittest.main()
