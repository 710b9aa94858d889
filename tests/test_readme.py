"""Test of README.md: its examples print what it says."""

import doctest
import pathlib
import unittest

README = pathlib.Path(__file__).parent.parent / "README.md"


class ReadmeTest(unittest.TestCase):
    def test_examples(self):
        found = doctest.testfile(str(README), module_relative=False, encoding="utf-8")
        self.assertGreater(found.attempted, 50)
        self.assertEqual(found.failed, 0)


if __name__ == "__main__":
    unittest.main()
