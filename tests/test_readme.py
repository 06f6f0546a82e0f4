"""The examples of README.md answer what stands there."""

import doctest
import pathlib
import unittest

README = pathlib.Path(__file__).resolve().parent.parent / "README.md"


class Readme(unittest.TestCase):
    def test_examples(self):
        outcome = doctest.testfile(str(README), module_relative=False, encoding="utf-8")
        self.assertEqual(outcome.failed, 0)
        self.assertGreater(outcome.attempted, 0)


if __name__ == "__main__":
    unittest.main()
