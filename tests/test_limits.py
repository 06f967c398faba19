import unittest

from whichhouse import limits


class LimitsTest(unittest.TestCase):
    def test_the_seven_constants(self):
        wanted = {
            "MOST_HOUSES": 10,
            "MOST_WORD": 200,
            "MOST_CHANGES": 2,
            "MOST_UNREAD": 3,
            "MOST_LINES": 20000,
            "MOST_CODES": 100,
            "MARKS": "abcdefghijkl",
        }
        for name, value in wanted.items():
            with self.subTest(name):
                told = getattr(limits, name)
                self.assertEqual(told, value)
                self.assertIs(type(told), type(value))


if __name__ == "__main__":
    unittest.main()
