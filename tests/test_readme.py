"""What README.md shows is what the program tells."""

import builtins
import doctest
import unittest
from pathlib import Path

README = Path(__file__).resolve().parent.parent / "README.md"


class ReadmeTest(unittest.TestCase):

    def test_its_examples(self):
        # What an example tells is kept there as _.
        self.addCleanup(vars(builtins).pop, "_", None)
        told = doctest.testfile(str(README), module_relative=False, verbose=False)
        self.assertEqual(0, told.failed)
        self.assertLess(10, told.attempted)


if __name__ == "__main__":
    unittest.main()
