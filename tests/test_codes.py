"""Codes, their classes, and what bars them (points 8 and 11)."""

import itertools
import unittest

from tests.cases import Case
from tests.counting import EACH_WAY, FOUR, PATH, TURNING, all_tied, board, deeds_of, houses_of, large_webs
from tests.counting import linked_classes, numbered, pairs_led, parts_ends, ring, small_webs, star, table_from
from tests.counting import turned_round
from tests.test_walks import words
from whichhouse.codes import code_of, codes, few_codes, fewest_codes, group, has_code, quarrel
from whichhouse.errors import NoCode
from whichhouse.walks import led
from whichhouse.webs import Web


class ExampleTest(Case):
    def test_the_examples_of_the_document(self):
        told = [
            codes(PATH), code_of(PATH, "aab"), fewest_codes(PATH), codes(TURNING), group(TURNING), group(PATH),
            has_code(FOUR), codes(FOUR),
        ]
        self.assertEqual(told, [
            ((0, 1, 2), (1, 0, 3), (0, 1, 2)), 3, 3, ((0, 1, 2), (2, 0, 1), (1, 2, 0)),
            ((0, 1, 2), (1, 2, 0), (2, 0, 1)), None, False, None,
        ])
        told = [len(quarrel(FOUR)), quarrel(PATH), len(set(few_codes(PATH)[0] + few_codes(PATH)[1]))]
        self.assertEqual(told, [2, None, 3])


class TableTest(Case):
    def test_small_webs_against_classes_put_together_here(self):
        seen = {True: 0, False: 0}
        for web in small_webs():
            sets = linked_classes(web)
            wanted = parts_ends(sets)
            seen[wanted] += 1
            with self.subTest(web.plain):
                self.assertIs(has_code(web), wanted)
                self.assertEqual(codes(web), table_from(web, sets) if wanted else None)
        self.assertGreater(min(seen.values()), 50)

    def test_webs_of_each_way(self):
        for (wanted, _, _, _), web in EACH_WAY:
            self.assertIs(has_code(web), wanted)

    def test_two_houses(self):
        self.assertEqual(codes(Web("0 a 1 a")), ((0, 1), (1, 0)))
        self.assertEqual(codes(Web("0 a 1 b")), ((0, 1), (2, 3)))

    def test_all_marks_unlike(self):
        web = Web("0 a 1 b\n1 c 2 d\n2 e 3 f\n3 g 4 h")
        self.assertEqual(codes(web), tuple(tuple(range(5 * k, 5 * k + 5)) for k in range(5)))

    def test_numbers_come_in_the_order_of_the_least_pairs(self):
        for web in small_webs() + large_webs():
            if has_code(web):
                numbers = [number for row in codes(web) for number in row]
                self.assertEqual(list(dict.fromkeys(numbers)), list(range(max(numbers) + 1)))

    def test_large_webs(self):
        for houses in (8, 9, 10):
            for web in (ring(houses), all_tied(houses)):
                wanted = tuple(tuple((y - x) % houses for y in range(houses)) for x in range(houses))
                self.assertEqual(codes(web), wanted)
        exchanged = Web(all_tied(10).plain.replace("0 a 1", "0 b 1").replace("0 b 2", "0 a 2"))
        self.assertEqual([has_code(exchanged), codes(exchanged)], [False, None])
        self.assertEqual(codes(star(9, "l"))[1], codes(star(9, "l"))[9])

    def test_kinds_of_values(self):
        told = codes(PATH)
        self.assertIs(type(told), tuple)
        self.assertEqual({type(row) for row in told}, {tuple})
        self.assertEqual({type(number) for row in told for number in row}, {int})


class CodeOfTest(Case):
    def test_equal_numbers_from_one_house_just_for_equal_ends(self):
        for web in [web for web in small_webs() if has_code(web)][::3]:
            ends = {}
            for word in words(web.marks[:4], 3 if len(web.marks) > 2 else 4):
                number, pairs = code_of(web, word), led(web, word)
                self.assertEqual(number is None, not pairs)
                for house, end in pairs:
                    self.assertEqual(codes(web)[house][end], number)
                    self.assertEqual(ends.setdefault((house, number), end), end)
                    self.assertEqual(ends.setdefault((house, "to", end), number), number)

    def test_words_that_can_be_walked_from_nowhere(self):
        for word in ("c", "l", "bb", "ac", "abb", "c" * 200):
            self.assertIsNone(code_of(PATH, word))

    def test_number_0_is_no_none(self):
        self.assertEqual(code_of(PATH, "aa"), 0)
        self.assertIs(type(code_of(PATH, "aa")), int)
        self.assertEqual(code_of(TURNING, "aaa"), 0)

    def test_words_of_200_marks(self):
        self.assertEqual(code_of(TURNING, "a" * 200), 2)
        self.assertEqual(code_of(ring(10), "a" * 200), 0)
        self.assertEqual(code_of(ring(10), "a" * 199 + "b"), 8)
        self.assertEqual(code_of(all_tied(10), "i" * 199), 1)

    def test_no_code(self):
        for (code, _, _, _), web in EACH_WAY:
            if not code:
                for word in ("a", "l", "ab", "b" * 200):
                    with self.assertRaises(NoCode):
                        code_of(web, word)
                    with self.assertRaises(NoCode):
                        code_of(word=word, web=web)


class QuarrelTest(Case):
    def shortest(self, web):
        """How many links the shortest chain has, by going on from all pairs at once."""
        deeds = [pairs_led(ends) for ends in deeds_of(web)]
        near = {}
        for pairs in deeds:
            for pair in pairs:
                near.setdefault(pair, set()).update(pairs)
        reached = {pair: {pair} for pair in near}
        for many in itertools.count(1):
            reached = {pair: set().union(*[near[other] for other in reached[pair]]) for pair in reached}
            for (x, y), others in reached.items():
                if any(u == x and v != y for u, v in others):
                    return many

    def check(self, web, told):
        for (pair, other, word), after in zip(told, told[1:] + (None,)):
            self.assertLessEqual({pair, other}, set(led(web, word)))
            if after is not None:
                self.assertEqual(other, after[0])
        self.assertEqual(told[0][0][0], told[-1][1][0])
        self.assertNotEqual(told[0][0][1], told[-1][1][1])

    def test_small_webs(self):
        for web in small_webs():
            told = quarrel(web)
            with self.subTest(web.plain):
                self.assertEqual(told is None, has_code(web))
                if told is not None:
                    self.check(web, told)
                    self.assertEqual(len(told), self.shortest(web))

    def test_longer_chains(self):
        for text, links in (
            ("0 e 1 d\n0 c 2 b\n1 c 2 d", 2),
            ("0 d 2 d\n0 c 3 c\n1 b 2 b\n1 c 3 a", 3),
            ("0 b 2 c\n0 d 3 a\n1 b 2 f\n1 f 3 d\n2 a 3 c", 4),
            ("0 g 2 f\n0 b 3 b\n1 j 2 c\n1 c 3 e\n1 g 4 e\n2 j 4 c", 5),
        ):
            told = quarrel(Web(text))
            self.check(Web(text), told)
            self.assertEqual([len(told), self.shortest(Web(text))], [links, links])

    def test_kinds_of_values(self):
        told = quarrel(FOUR)
        self.assertIs(type(told), tuple)
        for pair, other, word in told:
            self.assertEqual([type(pair), type(other), type(word)], [tuple, tuple, str])

    def test_large_webs(self):
        many = 0
        for web in large_webs():
            told = quarrel(web)
            self.assertEqual(told is None, has_code(web))
            if told is not None:
                many += 1
                self.check(web, told)
        self.assertGreater(many, 10)

    def test_equal_webs_tell_the_same_chain(self):
        for web in small_webs()[::5] + large_webs():
            self.assertEqual(quarrel(web), quarrel(turned_round(web)))


class GroupTest(Case):
    def is_drawn(self, web):
        """The words of point 12, asked of all that words do."""
        if not parts_ends(linked_classes(web)) or len(linked_classes(web)) != houses_of(web):
            return False
        if len({web.at(house) for house in range(web.houses)}) > 1:
            return False
        return all(len(set(ends) - {None}) == len(ends) - ends.count(None) for ends in deeds_of(web))

    def check(self, web):
        """Whether the rows tell the number of two words put together."""
        rows = group(web)
        self.assertEqual([len(row) for row in rows], [web.houses] * web.houses)
        self.assertEqual({type(row) for row in rows + (rows,)}, {tuple})
        found = list(deeds_of(web).values())
        for v, w in itertools.product(found, repeat=2):
            self.assertEqual(rows[code_of(web, v)][code_of(web, w)], code_of(web, v + w))

    def test_rings_boards_and_numbered_houses(self):
        for web in (
            ring(3), ring(4), ring(5), ring(10), board(3, 3), all_tied(2), all_tied(3), all_tied(7), numbered(ring(6)),
            Web("0 a 1 a"), Web("0 a 1 a\n1 b 2 b\n2 a 3 a\n3 b 0 b"),
            Web("0 a 1 a\n0 b 2 b\n0 c 3 c\n1 c 2 c\n1 b 3 b\n2 a 3 a"),
        ):
            with self.subTest(web.plain):
                self.assertTrue(self.is_drawn(web))
                self.check(web)

    def test_a_group_in_which_the_order_counts(self):
        # The six orders of three things: a and b turn them, c and its like change two for one another.
        web = Web("0 a 1 b\n1 a 2 b\n2 a 0 b\n3 a 4 b\n4 a 5 b\n5 a 3 b\n0 c 3 c\n1 c 5 c\n2 c 4 c")
        self.assertTrue(self.is_drawn(web))
        self.check(web)
        rows = group(web)
        self.assertNotEqual(rows, tuple(zip(*rows)))

    def test_numbers_of_a_ring(self):
        self.assertEqual(group(ring(5)), tuple(tuple((c + d) % 5 for d in range(5)) for c in range(5)))

    def test_small_webs(self):
        seen = {True: 0, False: 0}
        for web in small_webs():
            drawn = self.is_drawn(web)
            seen[drawn] += 1
            with self.subTest(web.plain):
                self.assertEqual(group(web) is not None, drawn)
                if drawn:
                    self.check(web)
        self.assertGreaterEqual(min(seen.values()), 5)

    def test_webs_with_a_code_that_are_not_drawn_by_a_group(self):
        for text in (
            "0 a 1 b",
            "0 b 1 c\n0 c 2 c",
            # As many classes as houses, but unlike marks.
            "0 c 1 b\n0 a 2 c\n1 c 2 b",
            "0 b 1 a\n0 c 2 a\n1 c 2 b",
            # As many classes as houses and everywhere the same marks, but a leads 1 and 2 to 0.
            "0 a 1 a\n0 b 2 a\n1 b 3 a\n2 b 3 b",
            # Everywhere the same mark is not enough.
            "0 a 1 a\n0 b 2 b\n2 a 3 a",
        ):
            with self.subTest(text):
                self.assertTrue(has_code(Web(text)))
                self.assertIsNone(group(Web(text)))
                self.assertFalse(self.is_drawn(Web(text)))

    def test_numbered_houses_that_do_not_have_all_marks(self):
        for web in (numbered(FOUR), numbered(board(3, 3))):
            self.assertTrue(has_code(web))
            self.assertIsNone(group(web))

    def test_webs_without_a_code(self):
        for (code, _, _, _), web in EACH_WAY:
            if not code:
                self.assertIsNone(group(web))

    def test_other_letters_draw_the_same_group(self):
        names = str.maketrans("abcd", "hlcf")
        for web in (ring(7), board(3, 3)):
            self.assertEqual(group(Web(web.plain.translate(names))), group(web))


if __name__ == "__main__":
    unittest.main()
