"""The examples of README.md."""

import doctest
import os
import unittest

PATH = os.path.join(os.path.dirname(os.path.dirname(os.path.abspath(__file__))), "README.md")


class Readme(unittest.TestCase):
    def test_examples(self):
        failed, tried = doctest.testfile(PATH, module_relative=False, encoding="utf-8")
        self.assertGreater(tried, 10)
        self.assertEqual(failed, 0)


if __name__ == "__main__":
    unittest.main()
