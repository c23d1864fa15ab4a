import unittest

from keepsort import limits


class LimitsTest(unittest.TestCase):
    def test_the_seven_constants(self):
        wanted = {
            "MOST_CELLS": 24,
            "SMALL": 10,
            "MOST_INDEX": 7,
            "MOST_VALUE": 9999,
            "MOST_LETTERS": 400,
            "MOST_TIMES": 1000000000000000000000000000000,
            "MOST_EDITS": 1000,
        }
        for name, value in wanted.items():
            with self.subTest(name=name):
                self.assertEqual(getattr(limits, name), value)
                self.assertIs(type(getattr(limits, name)), int)


if __name__ == "__main__":
    unittest.main()
