"""The examples of README.md are right."""

import doctest
import unittest
from pathlib import Path


class TestReadme(unittest.TestCase):
    def test_examples(self):
        found = doctest.testfile(str(Path(__file__).resolve().parent.parent / "README.md"), module_relative=False)
        self.assertEqual(found.failed, 0)
        self.assertGreater(found.attempted, 20)


if __name__ == "__main__":
    unittest.main()
