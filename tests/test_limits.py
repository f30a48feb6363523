import unittest

from eventsteps import limits

VALUES = {
    "STATIONS": 6,
    "SERVERS": 4,
    "ROOM": 40,
    "KINDS": 6,
    "PRIORITY": 9,
    "STEPS": 6,
    "DURATION": 100,
    "PAUSES": 8,
    "JOBS": 40,
    "TIME": 10000,
    "LETTERS": 8,
    "NOW": 20000,
    "KEPT": 5,
    "WITHIN": 1000,
}


class LimitsTest(unittest.TestCase):
    def test_each_limit_has_its_value(self):
        for name, value in VALUES.items():
            with self.subTest(name):
                self.assertIs(type(getattr(limits, name)), int)
                self.assertEqual(getattr(limits, name), value)


if __name__ == "__main__":
    unittest.main()
