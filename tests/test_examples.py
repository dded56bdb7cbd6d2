"""The examples of the interface are what the program returns."""

import doctest
import unittest
from pathlib import Path

EXAMPLES = Path(__file__).resolve().parent / "examples.txt"


class ExamplesTest(unittest.TestCase):
    def test_examples(self):
        result = doctest.testfile(str(EXAMPLES), module_relative=False, encoding="utf-8")
        self.assertGreater(result.attempted, 50)
        self.assertEqual(result.failed, 0)


if __name__ == "__main__":
    unittest.main()
