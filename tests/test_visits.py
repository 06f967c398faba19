"""Walks to all houses and back (the interface of whichhouse.visits)."""

import random
import unittest

from tests.cases import Case
from tests.counting import FOUR, PATH, TURNING, all_tied, large_webs, random_web, ring, small_webs, star, steps_of
from tests.counting import turned_round
from tests.values import NUMBERS, ODD
from whichhouse.errors import InvalidHouse, NotAWeb
from whichhouse.visits import steps_without, visit
from whichhouse.webs import Web


class VisitTest(Case):
    def check(self, web):
        """Whether the word from each house is of the due length, comes to all houses and ends at its beginning."""
        steps = steps_of(web)
        for house in range(web.houses):
            word = visit(web, house)
            with self.subTest(web.plain, house=house):
                self.assertIs(type(word), str)
                self.assertEqual(len(word), 2 * (web.houses - 1))
                seen = [house]
                for mark in word:
                    seen.append(steps[seen[-1], mark])
                self.assertEqual(set(seen), set(range(web.houses)))
                self.assertEqual([seen[-1], web.go(house, word)], [house, house])

    def test_the_examples_of_the_document(self):
        told = [len(visit(FOUR, 1)), FOUR.go(1, visit(FOUR, 1)), visit(Web("0 a 1 b"), 1), steps_without(TURNING)]
        self.assertEqual(told, [6, 1, "ba", 6])

    def test_small_and_large_webs(self):
        for web in small_webs() + large_webs():
            self.check(web)

    def test_webs_of_two_to_ten_houses(self):
        source = random.Random(5)
        for houses in range(2, 11):
            for more in (0, 0, 0, 1, 3, 36):
                self.check(random_web(source, houses, more, 9))
        for leaves in range(1, 10):
            self.check(star(leaves, "abc"))

    def test_equal_webs_tell_equal_words(self):
        for web in small_webs()[::5] + large_webs():
            for house in range(web.houses):
                self.assertEqual(visit(web, house), visit(turned_round(web), house))

    def test_by_place_and_by_name(self):
        self.assertEqual(visit(house=2, web=PATH), visit(PATH, 2))
        self.assertEqual(visit(PATH, house=0), visit(PATH, 0))

    def test_what_is_no_house(self):
        for web in (Web("0 a 1 a"), PATH, ring(9), all_tied(10)):
            others = tuple(n for n in NUMBERS if not 0 <= n < web.houses)
            for house in ODD + others + (web.houses, "0", "", (0,), [0], PATH):
                self.raises(InvalidHouse, house, lambda: visit(web, house))

    def test_web_ahead_of_house(self):
        for value in ODD + NUMBERS + ("", PATH.text, [PATH]):
            self.raises(NotAWeb, value, lambda: visit(value, 0))
            self.raises(NotAWeb, value, lambda: visit(house=17, web=value))


class StepsWithoutTest(Case):
    def test_twice_the_ties(self):
        for web in small_webs() + large_webs():
            self.assertEqual(steps_without(web), len(steps_of(web)))
        self.assertEqual([steps_without(Web("0 a 1 a")), steps_without(all_tied(10))], [2, 90])
        self.assertIs(type(steps_without(PATH)), int)

    def test_by_name(self):
        self.assertEqual(steps_without(web=PATH), 4)

    def test_what_is_no_web(self):
        for value in ODD + NUMBERS + ("", PATH.text, [PATH]):
            self.raises(NotAWeb, value, lambda: steps_without(value))


if __name__ == "__main__":
    unittest.main()
