"""The examples of the document."""

import doctest
import pathlib
import unittest

EXAMPLES = pathlib.Path(__file__).resolve().parent / "examples.txt"


class ExamplesTest(unittest.TestCase):
    def test_all_of_them(self):
        told = doctest.testfile(str(EXAMPLES), module_relative=False)
        self.assertEqual((told.attempted, told.failed), (130, 0))


if __name__ == "__main__":
    unittest.main()
