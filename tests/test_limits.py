"""Each limit has its value."""

import unittest

from sentonward import limits


class LimitsTest(unittest.TestCase):

    def test_each_limit_has_its_value(self):
        told = {
            "RULES": 12, "STATES": 6, "WORDS": 6, "PATTERN": 2, "BEGINNING": 4, "READINGS": 100, "PRICED": 6,
        }
        for name, value in told.items():
            with self.subTest(name=name):
                self.assertIs(type(getattr(limits, name)), int)
                self.assertEqual(getattr(limits, name), value)


if __name__ == "__main__":
    unittest.main()
