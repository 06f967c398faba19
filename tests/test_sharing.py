"""The fewest values of a code, and tables with so few (points 2 and 8)."""

import itertools
import random
import time
import unittest

from tests.cases import Case
from tests.counting import CROWDED, EACH_WAY, PATH, TANGLED, TURNING, all_tied, deeds_of, large_webs, linked_classes
from tests.counting import pairs_led, parts_ends, random_web, ring, small_webs, star, turned_round
from whichhouse.codes import codes, few_codes, fewest_codes, has_code
from whichhouse.webs import Web


def is_code(sets, table):
    """Whether linked pairs have one number, and pairs with one beginning and unlike ends unlike ones."""
    if any(len({table[x][y] for x, y in one}) > 1 for one in sets):
        return False
    return all(len(set(row)) == len(row) for row in table)


def can_share(sets, values):
    """Whether all ways to give the classes so many values hold one that is a code."""
    def go_on(given):
        if len(given) == len(sets):
            return True
        begins = {x for x, _ in sets[len(given)]}
        for value in range(min(values, max(given, default=-1) + 2)):
            rivals = [one for one, other in zip(sets, given) if other == value]
            if not any(begins & {x for x, _ in one} for one in rivals) and go_on(given + [value]):
                return True
        return False

    return go_on([])


def fewest(sets):
    return next(values for values in itertools.count(1) if can_share(sets, values))


class FewestTest(Case):
    def check_table(self, web, sets):
        table, many = few_codes(web), fewest_codes(web)
        self.assertIs(type(many), int)
        self.assertEqual([type(table)] + [type(row) for row in table], [tuple] * (1 + web.houses))
        self.assertEqual([len(row) for row in table], [web.houses] * web.houses)
        self.assertEqual(sorted({value for row in table for value in row}), list(range(many)))
        self.assertTrue(is_code(sets, table))

    def test_small_webs_against_trying_all_ways(self):
        many = 0
        for web in small_webs():
            sets = linked_classes(web)
            with self.subTest(web.plain):
                if parts_ends(sets):
                    many += 1
                    self.check_table(web, sets)
                    self.assertEqual(fewest_codes(web), fewest(sets))
                else:
                    self.assertEqual([fewest_codes(web), few_codes(web)], [None, None])
        self.assertGreater(many, 50)

    def test_more_values_than_houses(self):
        for values, web in CROWDED:
            sets = linked_classes(web)
            with self.subTest(web.plain):
                self.check_table(web, sets)
                self.assertEqual([fewest_codes(web), fewest(sets)], [values, values])
                self.assertGreater(values, web.houses)

    def test_not_more_values_than_classes_and_not_fewer_than_houses(self):
        for web in small_webs() + large_webs():
            if has_code(web):
                classes = 1 + max(max(row) for row in codes(web))
                self.assertLessEqual(web.houses, fewest_codes(web))
                self.assertLessEqual(fewest_codes(web), classes)

    def test_all_words_of_the_shortest_lengths(self):
        for web in [PATH, TURNING] + [web for _, web in CROWDED]:
            table = few_codes(web)
            for ends in deeds_of(web):
                self.assertEqual(len({table[x][y] for x, y in pairs_led(ends)}), 1)

    def test_two_houses(self):
        self.assertEqual(few_codes(Web("0 a 1 a")), ((0, 1), (1, 0)))
        self.assertEqual([fewest_codes(Web("0 a 1 a")), fewest_codes(Web("0 a 1 b"))], [2, 2])

    def test_webs_of_each_way(self):
        for (code, _, _, _), web in EACH_WAY:
            self.assertEqual([fewest_codes(web) is not None, few_codes(web) is not None], [code, code])

    def test_rings_and_stars(self):
        self.assertEqual([fewest_codes(ring(houses)) for houses in range(3, 11)], list(range(3, 11)))
        self.assertEqual([fewest_codes(all_tied(houses)) for houses in range(2, 11)], list(range(2, 11)))
        self.assertEqual(fewest_codes(star(9, "l")), 10)

    def test_equal_webs_tell_equal_tables(self):
        for web in small_webs()[::5] + large_webs():
            self.assertEqual(few_codes(web), few_codes(turned_round(web)))


class LargeTest(Case):
    def check(self, web):
        table, classes = few_codes(web), codes(web)
        if classes is None:
            self.assertIsNone(table)
            return
        self.assertTrue(all(len(set(row)) == len(row) for row in table))
        shared = dict(zip(itertools.chain(*classes), itertools.chain(*table)))
        self.assertEqual(tuple(tuple(shared[number] for number in row) for row in classes), table)
        self.assertEqual(sorted(set(shared.values())), list(range(fewest_codes(web))))

    def test_large_webs(self):
        for web in large_webs():
            self.check(web)

    def test_webs_with_many_classes(self):
        source = random.Random(23)
        for _ in range(60):
            self.check(random_web(source, 10, source.choice((0, 0, 1, 2)), 12))

    def test_hard_ones_within_seconds(self):
        begun = time.monotonic()
        for values, web in TANGLED:
            self.check(web)
            self.assertEqual(fewest_codes(web), values)
        self.assertLess(time.monotonic() - begun, 20)


if __name__ == "__main__":
    unittest.main()
