import unittest

from tests.values import NUMBERS, ODD
from whichhouse.kinds import is_count, is_house, is_index, is_integer, is_letters, is_mark, is_name, is_pair, is_want
from whichhouse.kinds import is_word

TEXTS = ("", " ", "a", "l", "m", "A", "aa", "1", "?", "\n")


class KindsTest(unittest.TestCase):
    def check(self, asked, values, wanted):
        for value in values:
            with self.subTest(repr(value)[:40]):
                self.assertIs(asked(value), wanted)

    def test_integers(self):
        self.check(is_integer, NUMBERS, True)
        self.check(is_integer, ODD + TEXTS, False)

    def test_houses(self):
        self.check(lambda value: is_house(value, 3), (0, 1, 2), True)
        self.check(lambda value: is_house(value, 3), (-1, 3, 10 ** 39, -(10 ** 39)) + ODD + TEXTS, False)

    def test_counts(self):
        self.check(is_count, (0, 1, 100, 10 ** 39), True)
        self.check(is_count, (-1, -(10 ** 39)) + ODD + TEXTS, False)

    def test_indexes(self):
        self.check(lambda value: is_index(value, 2), (0, 1), True)
        self.check(lambda value: is_index(value, 2), (-1, 2, 10 ** 39) + ODD + TEXTS, False)
        self.check(lambda value: is_index(value, 0), NUMBERS + ODD + TEXTS, False)

    def test_names(self):
        self.check(is_name, ("a", "z", "mn", "abcdefgh", "stuvwxyz", "aaaaaaaa", "drop", "undo"), True)
        self.check(is_name, ("", "abcdefghi", "A", "aB", "`", "{", "a b", " a", "a\n", "a1", "a_", "="), False)
        self.check(is_name, ODD + NUMBERS, False)

    def test_pairs(self):
        self.check(lambda value: is_pair(value, 3), ((0, 0), (0, 2), (2, 1)), True)
        self.check(lambda value: is_pair(value, 3), ((0, 3), (-1, 0), (0,), (0, 1, 2), [0, 1], (True, 0)), False)
        self.check(lambda value: is_pair(value, 3), ODD + NUMBERS + TEXTS, False)

    def test_letters(self):
        self.check(is_letters, ("a", "l", "ab", "al", "bdk", "abcdefghijkl"), True)
        self.check(is_letters, ("", "aa", "ba", "abb", "m", "am", "A", " ", "a b", "abcdefghijklm"), False)
        self.check(is_letters, ODD + NUMBERS, False)

    def test_wants(self):
        self.check(is_want, ("code", "hand", "back", "behind"), True)
        self.check(is_want, ("", "c", "codes", "Code", " hand", "has") + ODD + NUMBERS, False)

    def test_marks(self):
        self.check(is_mark, tuple("abcdefghijkl"), True)
        self.check(is_mark, ("", " ", "m", "A", "L", "`", "ab", "aa", "abcdefghijkl", "?", "\n", "a\n") + ODD, False)
        self.check(is_mark, NUMBERS, False)

    def test_words(self):
        self.check(is_word, ("a", "l", "abcdefghijkl", "lkjihgfedcba", "a" * 200, "kl" * 100), True)
        self.check(is_word, ("", "a" * 201, "m", "abm", "ma", "A", "a b", " a", "a\n", "a" * 199 + "m"), False)
        self.check(is_word, ODD + NUMBERS, False)


if __name__ == "__main__":
    unittest.main()
