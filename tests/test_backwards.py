"""Back codes, those that can be handed on, and what may be wanted (points 10, 11 and 13)."""

import unittest

from tests.cases import Case
from tests.counting import EACH_WAY, PATH, TURNING, WANTS, all_tied, behind_classes, deeds_of, large_webs
from tests.counting import linked_classes, pairs_led, parts_beginnings, ring, small_webs, star, steps_of, table_from
from tests.counting import turned_round, wanted
from whichhouse.backwards import back_codes, behind_codes, behind_table, can_behind, has_back, has_want
from whichhouse.codes import codes, has_code
from whichhouse.handing import can_hand
from whichhouse.walks import led
from whichhouse.webs import Web

# The classes bound behind are wider than those of linked pairs.
WIDER = "0 a 1 b\n1 c 2 c\n1 e 3 b\n2 b 3 a"


class ExampleTest(Case):
    def test_the_examples_of_the_document(self):
        told = [
            has_back(PATH), back_codes(TURNING) == codes(TURNING), can_behind(TURNING), len(behind_table(TURNING)),
            has_want(PATH, "hand"), has_want(PATH, "behind"),
        ]
        self.assertEqual(told, [False, True, True, 6, True, False])


class TableTest(Case):
    def check(self, told_has, told_table, sets_of, web):
        sets = sets_of(web)
        has = parts_beginnings(sets)
        with self.subTest(web.plain):
            self.assertIs(told_has(web), has)
            self.assertEqual(told_table(web), table_from(web, sets) if has else None)
        return has

    def test_back_codes_against_classes_put_together_here(self):
        told = [self.check(has_back, back_codes, linked_classes, web) for web in small_webs()]
        self.assertGreater(min(told.count(True), told.count(False)), 50)

    def test_behind_codes_against_closing_here(self):
        told = [self.check(can_behind, behind_codes, behind_classes, web) for web in small_webs()]
        self.assertGreater(min(told.count(True), told.count(False)), 50)

    def test_webs_of_each_way(self):
        for (_, _, back, behind), web in EACH_WAY:
            self.assertEqual([has_back(web), can_behind(web)], [back, behind])
            self.assertEqual([back_codes(web) is not None, behind_codes(web) is not None], [back, behind])
            self.assertEqual(behind_table(web) is not None, behind)

    def test_classes_bound_behind_that_are_wider(self):
        web = Web(WIDER)
        self.assertLess(len(behind_classes(web)), len(linked_classes(web)))
        self.assertEqual(behind_codes(web), table_from(web, behind_classes(web)))
        self.assertNotEqual(behind_codes(web), back_codes(web))

    def test_back_codes_have_the_classes_of_codes(self):
        many = 0
        for web in small_webs() + large_webs():
            if has_back(web) and has_code(web):
                many += 1
                self.assertEqual(back_codes(web), codes(web))
        self.assertGreater(many, 50)

    def test_words_that_end_together_have_one_number_just_if_they_began_together(self):
        for web in [web for web in small_webs() if has_back(web)][::2]:
            table, begins = back_codes(web), {}
            for ends, word in deeds_of(web).items():
                self.assertEqual(pairs_led(ends), list(led(web, word)))
                self.assertEqual(len({table[x][y] for x, y in pairs_led(ends)}), 1)
                for x, y in pairs_led(ends):
                    self.assertEqual(begins.setdefault((table[x][y], y), x), x)
            for row in zip(*table):
                self.assertEqual(len(set(row)), web.houses)

    def test_one_mark_leads_two_houses_to_one(self):
        for web in (PATH, star(9, "a"), star(9, "abcdefghc"), Web("0 a 1 a\n1 b 2 a")):
            self.assertEqual([has_back(web), back_codes(web), can_behind(web)], [False, None, False])
            self.assertEqual([behind_codes(web), behind_table(web)], [None, None])

    def test_large_webs(self):
        for houses in (8, 9, 10):
            for web in (ring(houses), all_tied(houses)):
                self.assertEqual([back_codes(web), behind_codes(web)], [codes(web), codes(web)])
        for web in large_webs():
            self.assertFalse(can_behind(web) and not has_back(web))
            self.assertEqual(back_codes(web), back_codes(turned_round(web)))
            self.assertEqual(behind_table(web), behind_table(turned_round(web)))
            if has_back(web):
                self.assertTrue(all(len(set(column)) == web.houses for column in zip(*back_codes(web))))


class BehindTableTest(Case):
    def test_the_triples_of_small_webs(self):
        many = 0
        for web in small_webs() + [Web(WIDER)]:
            table = behind_codes(web)
            if table is None:
                self.assertIsNone(behind_table(web))
                continue
            many += 1
            triples = set()
            for (y, mark), z in steps_of(web).items():
                triples |= {(table[x][y], mark, table[x][z]) for x in range(web.houses)}
            with self.subTest(web.plain):
                self.assertEqual(behind_table(web), tuple(sorted(triples)))
                self.assertEqual(len({triple[:2] for triple in triples}), len(triples))
        self.assertGreater(many, 50)

    def test_it_tells_the_number_of_the_word_and_the_mark(self):
        for web in [web for web in small_webs() + [Web(WIDER)] if can_behind(web)][::3]:
            table = behind_codes(web)
            told = {triple[:2]: triple[2] for triple in behind_table(web)}
            for ends, word in deeds_of(web).items():
                x, y = pairs_led(ends)[0]
                for mark in web.marks:
                    pairs = led(web, word + mark)
                    if pairs:
                        u, v = pairs[0]
                        self.assertEqual(told[table[x][y], mark], table[u][v])

    def test_a_ring(self):
        wanted = {(d, m, (d + step) % 7) for m, step in (("a", 1), ("b", -1)) for d in range(7)}
        self.assertEqual(behind_table(ring(7)), tuple(sorted(wanted)))

    def test_kinds_of_values(self):
        for told in (back_codes(TURNING), behind_codes(TURNING), behind_table(TURNING)):
            self.assertEqual({type(row) for row in told + (told,)}, {tuple})
        self.assertEqual([{type(row[k]) for row in behind_table(TURNING)} for k in range(3)], [{int}, {str}, {int}])


class WantTest(Case):
    def test_small_webs(self):
        for web in small_webs():
            for want in WANTS:
                self.assertIs(has_want(web, want), wanted(web, want), (web.plain, want))

    def test_webs_of_each_way(self):
        for has, web in EACH_WAY:
            self.assertEqual(tuple(has_want(web, want) for want in WANTS), has)
            self.assertEqual(tuple(has_want(want=want, web=web) for want in WANTS), has)

    def test_it_agrees_with_the_other_functions(self):
        for web in large_webs():
            told = (has_code(web), can_hand(web), has_back(web), can_behind(web))
            self.assertEqual(tuple(has_want(web, want) for want in WANTS), told)


if __name__ == "__main__":
    unittest.main()
