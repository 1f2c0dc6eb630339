"""Tests of the examples in README.md."""

import doctest
import unittest


class Readme(unittest.TestCase):

    def test_the_examples(self):
        result = doctest.testfile("../README.md")
        self.assertGreater(result.attempted, 0)
        self.assertEqual(result.failed, 0)


if __name__ == "__main__":
    unittest.main()
