import unittest

from glimpserounds import limits

CONSTANTS = {
    "MOST_WIDTH": 8,
    "MOST_LENGTH": 40,
    "MOST_PACE": 9,
    "MOST_GLANCES": 12,
    "MOST_TIMES": 6,
    "MOST_PAIRS": 30,
    "GREATEST": 1000000000000000000000000000000,
}


class LimitsTest(unittest.TestCase):
    def test_each_constant_has_its_value(self):
        for name, value in CONSTANTS.items():
            with self.subTest(name):
                self.assertIs(type(getattr(limits, name)), int)
                self.assertEqual(getattr(limits, name), value)


if __name__ == "__main__":
    unittest.main()
