"""Words and the pairs that they lead (point 7)."""

import itertools
import unittest

from tests.cases import Case
from tests.counting import FOUR, PATH, TURNING, deeds_of, houses_of, large_webs, pairs_led, small_webs
from tests.counting import steps_of, turned_round
from whichhouse.walks import joined, led, unlike
from whichhouse.webs import Web


def ends_of(web, word):
    """Where a word ends from each house, None where it cannot be walked."""
    steps = steps_of(web)
    ends = []
    for house in range(houses_of(web)):
        for mark in word:
            house = steps.get((house, mark))
        ends.append(house)
    return ends


def words(letters, longest):
    for many in range(1, longest + 1):
        yield from ("".join(row) for row in itertools.product(letters, repeat=many))


class ExampleTest(Case):
    def test_the_examples_of_the_document(self):
        told = [
            led(PATH, "ab"), led(PATH, "ba"), joined(PATH, (0, 1), (2, 1)), joined(PATH, (0, 0), (1, 2)),
            unlike(PATH, "aa", "ab"), len(joined(TURNING, (0, 0), (1, 1))),
        ]
        self.assertEqual(told, [((0, 2), (2, 2)), ((1, 1),), "a", None, (0, 2), 2])


class LedTest(Case):
    def test_all_short_words_of_small_webs(self):
        for web in small_webs():
            for word in words(web.marks[:3], 3):
                self.assertEqual(led(web, word), tuple(pairs_led(ends_of(web, word))), (web.plain, word))

    def test_all_that_words_do(self):
        for web in small_webs()[::4]:
            for ends, word in deeds_of(web).items():
                self.assertEqual(led(web, word), tuple(pairs_led(ends)), (web.plain, word))

    def test_a_word_that_cannot_be_walked(self):
        for word in ("b", "c", "l", "ca", "ac", "ab" * 99 + "c"):
            self.assertEqual(led(Web("0 a 1 a"), word), ())

    def test_words_of_200_marks(self):
        self.assertEqual(led(TURNING, "a" * 200), ((0, 2), (1, 0), (2, 1)))
        self.assertEqual(led(TURNING, "a" * 199 + "b"), ((0, 0), (1, 1), (2, 2)))
        self.assertEqual(led(PATH, "ab" * 100), ((0, 2), (2, 2)))
        for web in large_webs():
            word = (web.at(0) * 200)[:200]
            self.assertEqual(led(web, word), tuple(pairs_led(ends_of(web, word))))

    def test_it_ascends_and_its_rows_are_tuples(self):
        told = led(PATH, "a")
        self.assertEqual(told, ((0, 1), (1, 0), (2, 1)))
        self.assertIs(type(told), tuple)
        self.assertEqual({type(pair) for pair in told}, {tuple})


class JoinedTest(Case):
    def check(self, web, deeds):
        """Whether each answer is as short as the shortest word with such ends, and None if there is none."""
        count = houses_of(web)
        pairs = list(itertools.product(range(count), repeat=2))
        shortest = {}
        for ends, word in deeds.items():
            for pair, other in itertools.product(pairs_led(ends), repeat=2):
                if len(word) < shortest.get((pair, other), 999):
                    shortest[pair, other] = len(word)
        for pair, other in itertools.product(pairs, repeat=2):
            word = joined(web, pair, other)
            with self.subTest(web.plain, pair=pair, other=other):
                self.assertEqual(None if word is None else len(word), shortest.get((pair, other)))
                if word is not None:
                    self.assertIs(type(word), str)
                    self.assertLessEqual({pair, other}, set(led(web, word)))
        return shortest

    def test_small_webs_against_all_that_words_do(self):
        for web in small_webs()[::2]:
            self.check(web, deeds_of(web))

    def test_long_words_are_found(self):
        for text, longest in (
            ("0 a 1 b\n0 b 2 c\n0 c 3 c\n1 a 2 b\n2 a 3 a", 8),
            ("0 b 2 b\n0 c 3 b\n1 a 2 c\n1 b 4 a\n3 c 4 b", 13),
        ):
            web = Web(text)
            self.assertEqual(max(self.check(web, deeds_of(web)).values()), longest)

    def test_one_pair_with_itself(self):
        for web in small_webs()[::5] + large_webs():
            for house, end in itertools.product(range(web.houses), repeat=2):
                word = joined(web, (house, end), (house, end))
                self.assertIn((house, end), led(web, word))
                self.assertGreaterEqual(len(word), 2 if house == end else 1)

    def test_the_empty_word_is_none(self):
        self.assertEqual(joined(Web("0 a 1 a"), (0, 0), (1, 1)), "aa")
        self.assertEqual(joined(Web("0 a 1 b"), (0, 0), (0, 0)), "ab")
        self.assertIsNone(joined(Web("0 a 1 b"), (0, 0), (1, 1)))

    def test_pairs_with_one_beginning_and_unlike_ends(self):
        for web in (PATH, TURNING, FOUR):
            for house in range(web.houses):
                self.assertIsNone(joined(web, (house, 0), (house, 1)))

    def test_large_webs(self):
        for web in large_webs():
            for pair, other in (((0, 1), (1, 0)), ((0, 0), (7, 7)), ((3, 5), (4, 6)), ((2, 7), (6, 1))):
                word = joined(web, pair, other)
                back = joined(web, other, pair)
                self.assertEqual(word is None, back is None)
                if word is not None:
                    self.assertEqual(len(word), len(back))
                    self.assertLessEqual({pair, other}, set(led(web, word)))

    def test_equal_webs_tell_the_same_word(self):
        for web in small_webs()[::9] + large_webs()[::3]:
            for pair, other in (((0, 1), (1, 0)), ((0, 0), (1, 1))):
                self.assertEqual(joined(web, pair, other), joined(turned_round(web), pair, other))


class UnlikeTest(Case):
    def test_all_short_words_of_small_webs(self):
        for web in small_webs()[::3]:
            short = list(words(web.marks[:3], 2)) + [web.at(0) * 3]
            for word, other in itertools.product(short, repeat=2):
                both = zip(ends_of(web, word), ends_of(web, other))
                wanted = tuple(k for k, (x, y) in enumerate(both) if x is not None and y is not None and x != y)
                self.assertEqual(unlike(web, word, other), wanted, (web.plain, word, other))

    def test_it_does_not_matter_which_comes_first(self):
        for web in small_webs()[::7]:
            for word, other in itertools.combinations(list(words("abc", 2)), 2):
                self.assertEqual(unlike(web, word, other), unlike(web, other, word))

    def test_one_word_twice(self):
        self.assertEqual(unlike(PATH, "ab", "ab"), ())

    def test_only_one_of_them_can_be_walked(self):
        self.assertEqual(unlike(PATH, "a", "b"), (1,))
        self.assertEqual(unlike(PATH, "a", "ba"), (1,))
        self.assertEqual(unlike(PATH, "a", "c"), ())
        self.assertEqual(unlike(PATH, "l", "c"), ())

    def test_house_0_is_an_end_like_others(self):
        self.assertEqual(unlike(TURNING, "a", "b"), (0, 1, 2))
        self.assertEqual(unlike(TURNING, "ab", "ba"), ())

    def test_words_of_200_marks(self):
        self.assertEqual(unlike(TURNING, "a" * 200, "b" * 200), (0, 1, 2))
        self.assertEqual(unlike(TURNING, "a" * 200, "b" * 199 + "a"), (0, 1, 2))
        self.assertEqual(unlike(TURNING, "a" * 200, "a" * 197), ())


if __name__ == "__main__":
    unittest.main()
