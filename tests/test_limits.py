"""The two limits of the interface."""

import unittest

from bundleclocks.limits import ROUNDS, SEALED


class Limits(unittest.TestCase):
    def test_rounds(self):
        self.assertEqual(ROUNDS, 6)
        self.assertIs(type(ROUNDS), int)

    def test_sealed(self):
        self.assertEqual(SEALED, 8)
        self.assertIs(type(SEALED), int)


if __name__ == "__main__":
    unittest.main()
