"""The examples of README.md come out as they are printed there; the one of the document's chapter 1 is among them."""

import doctest
import unittest
from pathlib import Path

README = Path(__file__).resolve().parent.parent / "README.md"


class Readme(unittest.TestCase):
    def test_examples(self):
        failed, tried = doctest.testfile(str(README), module_relative=False)
        self.assertEqual(failed, 0)
        self.assertGreaterEqual(tried, 6)


if __name__ == "__main__":
    unittest.main()
