"""Codes that can be handed on, and their tables (points 9 and 11)."""

import itertools
import unittest

from tests.cases import Case
from tests.counting import EACH_WAY, FOUR, LETTERS, PATH, TURNING, all_tied, deeds_of, large_webs, linked_classes
from tests.counting import pairs_led, parts_ends, ring, small_webs, star, steps_of, table_from, turned_round
from tests.counting import wide_classes
from whichhouse.codes import codes, has_code
from whichhouse.errors import NoCode
from whichhouse.handing import can_hand, hand_codes, hand_table, handed
from whichhouse.walks import led
from whichhouse.webs import Web

# It can be handed on, but not by the classes: words of two classes must have one number.
WIDER = "0 a 1 b\n1 c 2 c\n1 e 3 b\n2 b 3 a"


def numbers_of(web, table):
    """The number of each word that some table gives to what words do."""
    return {word: {table[x][y] for x, y in pairs_led(ends)} for ends, word in deeds_of(web).items()}


class ExampleTest(Case):
    def test_the_examples_of_the_document(self):
        told = [
            can_hand(PATH), hand_codes(PATH) == codes(PATH), hand_table(PATH), handed(PATH, "a", 3),
            handed(PATH, "b", 3), can_hand(FOUR),
        ]
        wanted = (("a", 0, 1), ("a", 1, 0), ("a", 2, 3), ("a", 3, 2), ("b", 0, 1), ("b", 1, 0), ("b", 2, 3))
        self.assertEqual(told, [True, True, wanted, 2, None, False])


class TableTest(Case):
    def test_small_webs_against_closing_here(self):
        seen = {True: 0, False: 0}
        for web in small_webs():
            sets = wide_classes(web)
            wanted = parts_ends(sets)
            seen[wanted] += 1
            with self.subTest(web.plain):
                self.assertIs(can_hand(web), wanted)
                self.assertEqual(hand_codes(web), table_from(web, sets) if wanted else None)
        self.assertGreater(min(seen.values()), 50)

    def test_webs_of_each_way(self):
        for (code, hand, _, _), web in EACH_WAY:
            self.assertEqual([has_code(web), can_hand(web)], [code, hand])

    def test_a_code_but_none_that_can_be_handed_on(self):
        many = 0
        for (code, hand, _, _), web in EACH_WAY:
            if code and not hand:
                many += 1
                self.assertEqual([hand_codes(web), hand_table(web)], [None, None])
        self.assertEqual(many, 3)

    def test_wide_classes_that_are_wider_than_the_classes(self):
        web = Web(WIDER)
        self.assertTrue(can_hand(web))
        self.assertLess(len(wide_classes(web)), len(linked_classes(web)))
        self.assertEqual(hand_codes(web), table_from(web, wide_classes(web)))
        self.assertNotEqual(hand_codes(web), codes(web))

    def test_large_webs(self):
        for houses in (8, 9, 10):
            further = {LETTERS[k - 1]: k for k in range(1, houses)}
            for web, steps in ((ring(houses), {"a": 1, "b": -1}), (all_tied(houses), further)):
                wanted = {(m, d, (k + d) % houses) for m, k in steps.items() for d in range(houses)}
                self.assertEqual(hand_codes(web), codes(web))
                self.assertEqual(hand_table(web), tuple(sorted(wanted)))
        self.assertTrue(can_hand(star(9, "l")))

    def test_kinds_of_values(self):
        for told in (hand_codes(PATH), hand_table(PATH)):
            self.assertEqual({type(row) for row in told + (told,)}, {tuple})
        self.assertEqual([{type(row[k]) for row in hand_table(PATH)} for k in range(3)], [{str}, {int}, {int}])

    def test_equal_webs_tell_equal_tables(self):
        for web in small_webs()[::5] + large_webs():
            self.assertEqual(hand_codes(web), hand_codes(turned_round(web)))
            self.assertEqual(hand_table(web), hand_table(turned_round(web)))


class HandTableTest(Case):
    def test_the_triples_of_small_webs(self):
        for web in small_webs():
            table = hand_codes(web)
            if table is None:
                self.assertIsNone(hand_table(web))
                continue
            triples = set()
            for (x, mark), z in steps_of(web).items():
                triples |= {(mark, table[z][y], table[x][y]) for y in range(web.houses)}
            with self.subTest(web.plain):
                self.assertEqual(hand_table(web), tuple(sorted(triples)))
                self.assertEqual(len({triple[:2] for triple in triples}), len(triples))

    def test_what_is_handed_on_is_the_number_of_the_mark_and_the_word(self):
        for web in [web for web in small_webs() + [Web(WIDER)] if can_hand(web)][::3]:
            table, steps = hand_codes(web), steps_of(web)
            for word, numbers in numbers_of(web, table).items():
                self.assertEqual(len(numbers), 1)
                for mark in web.marks:
                    pairs = led(web, mark + word)
                    if pairs:
                        (x, y), (number,) = pairs[0], numbers
                        self.assertEqual(handed(web, mark, number), table[x][y])
                        self.assertIn((x, mark), steps)

    def test_all_marks_and_numbers(self):
        for web in (PATH, TURNING, ring(4), Web(WIDER), all_tied(10)):
            told = {triple[:2]: triple[2] for triple in hand_table(web)}
            for mark, number in itertools.product(LETTERS, list(range(105)) + [10 ** 39]):
                self.assertEqual(handed(web, mark, number), told.get((mark, number)))
                if number < 3:
                    self.assertEqual(handed(code=number, mark=mark, web=web), told.get((mark, number)))

    def test_number_0_is_no_none(self):
        self.assertEqual(handed(PATH, "a", 1), 0)
        self.assertIs(type(handed(PATH, "a", 1)), int)

    def test_no_code(self):
        for (_, hand, _, _), web in EACH_WAY:
            if not hand:
                for mark, number in (("a", 0), ("l", 10 ** 39)):
                    with self.assertRaises(NoCode):
                        handed(web, mark, number)


if __name__ == "__main__":
    unittest.main()
