"""The examples of the interface, as they stand."""

import doctest
import unittest


class Examples(unittest.TestCase):
    def test_examples(self):
        found = doctest.testfile("examples.txt", package="tests")
        self.assertEqual(found.failed, 0)
        self.assertEqual(found.attempted, 92)


if __name__ == "__main__":
    unittest.main()
