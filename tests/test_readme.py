"""README.md tells how to use the program and how to run its tests, and what its example tells is so."""

import re
import unittest
from pathlib import Path

TEXT = (Path(__file__).resolve().parent.parent / "README.md").read_text()


class ReadmeTest(unittest.TestCase):
    def test_example(self):
        example = re.search(r"```python\n(.*?)```", TEXT, re.S).group(1)
        names = {}
        exec(example, names)
        told = re.findall(r"^(\S.*?) +# ([^:\n]+)", example, re.M)
        self.assertGreater(len(told), 5)
        for asked, answer in told:
            with self.subTest(asked):
                self.assertEqual(repr(eval(asked, names)), answer)

    def test_how_to_run_the_tests(self):
        self.assertIn("## Tests", TEXT)
        self.assertIn("bash .ci/run", TEXT)

    def test_every_module_is_named(self):
        for path in (Path(__file__).resolve().parent.parent / "wearplan").glob("[a-z]*.py"):
            self.assertIn(f"`wearplan.{path.stem}`", TEXT)


if __name__ == "__main__":
    unittest.main()
