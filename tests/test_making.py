"""Webs that are made by a rule (points 6 to 10 and 12, and the interface of whichhouse.making)."""

import itertools
import unittest

from tests.cases import Case
from tests.counting import FOUR, LETTERS, PATH, TURNING, large_webs, small_webs, steps_of, turned_round
from tests.values import NUMBERS, ODD
from whichhouse.backwards import can_behind, has_back, has_want
from whichhouse.codes import codes, fewest_codes, group, has_code
from whichhouse.ends import alike_ends
from whichhouse.errors import InvalidCount, NotAWeb, TooMany
from whichhouse.handing import can_hand
from whichhouse.making import board, numbered, ring, same_ties
from whichhouse.walks import led
from whichhouse.webs import Web

ROUNDS = range(3, 11)


def plain_by_rule(steps):
    """The plain text of a web of which the steps (house, mark) -> other house are known, each told from both sides."""
    lines = []
    for (x, m), y in steps.items():
        if x < y:
            (back,) = [n for (house, n), end in steps.items() if (house, end) == (y, x)]
            lines.append((x, y, f"{x} {m} {y} {back}"))
    return "\n".join(line for _, _, line in sorted(lines))


def tied(web):
    return {frozenset((x, y)) for (x, _), y in steps_of(web).items()}


class ExampleTest(Case):
    def test_the_examples_of_the_document(self):
        told = [
            ring(3) == TURNING, board(3, 3).at(4), numbered(FOUR).plain, can_hand(numbered(FOUR)),
            same_ties(FOUR, numbered(FOUR)), fewest_codes(board(3, 3)),
        ]
        self.assertEqual(told, [True, "abcd", "0 a 1 c\n1 a 2 c\n2 a 3 c", True, True, 9])


class RingTest(Case):
    def test_ties_marks_and_plain_texts(self):
        for houses in ROUNDS:
            steps = {}
            for x in range(houses):
                steps[x, "a"] = (x + 1) % houses
                steps[x, "b"] = (x - 1) % houses
            web = ring(houses)
            self.assertIs(type(web), Web)
            self.assertEqual([web.houses, web.marks, len(web.ties)], [houses, "ab", houses])
            self.assertEqual(steps_of(web), steps)
            self.assertEqual(web.plain, plain_by_rule(steps))

    def test_a_ring_written_out(self):
        self.assertEqual(ring(4).plain, "0 a 1 b\n0 b 3 a\n1 a 2 b\n2 a 3 b")

    def test_words_end_where_their_sums_tell(self):
        for houses in ROUNDS:
            for word in ("a", "b", "aab", "bbbbb", "a" * 200, "ab" * 50 + "b" * 77):
                further = word.count("a") - word.count("b")
                self.assertEqual(led(ring(houses), word), tuple((x, (x + further) % houses) for x in range(houses)))

    def test_they_have_all_that_may_be_wanted(self):
        for houses in ROUNDS:
            web = ring(houses)
            self.assertEqual([has_code(web), can_hand(web), has_back(web), can_behind(web)], [True] * 4)
            self.assertEqual(codes(web), tuple(tuple((y - x) % houses for y in range(houses)) for x in range(houses)))
            self.assertEqual(fewest_codes(web), houses)
            self.assertEqual(group(web), tuple(tuple((c + d) % houses for d in range(houses)) for c in range(houses)))
            self.assertEqual(alike_ends(web), (("a", "b"), ("b", "a")))

    def test_by_name(self):
        self.assertEqual(ring(houses=5), ring(5))

    def test_other_numbers(self):
        for houses in ODD + tuple(n for n in NUMBERS if n not in ROUNDS) + (2, 11, 100, "3", "", [3], (3,), PATH):
            self.raises(InvalidCount, houses, lambda: ring(houses))
            self.raises(InvalidCount, houses, lambda: ring(houses=houses))


class BoardTest(Case):
    def test_the_board_of_nine(self):
        steps = {}
        for row, place in itertools.product(range(3), repeat=2):
            house = 3 * row + place
            steps[house, "a"] = 3 * row + (place + 1) % 3
            steps[house, "b"] = 3 * row + (place - 1) % 3
            steps[house, "c"] = 3 * ((row + 1) % 3) + place
            steps[house, "d"] = 3 * ((row - 1) % 3) + place
        web = board(3, 3)
        self.assertIs(type(web), Web)
        self.assertEqual([web.houses, web.marks, len(web.ties)], [9, "abcd", 18])
        self.assertEqual(steps_of(web), steps)
        self.assertEqual(web.plain, plain_by_rule(steps))
        self.assertEqual(web.plain.split("\n")[:4], ["0 a 1 b", "0 b 2 a", "0 c 3 d", "0 d 6 c"])

    def test_words_end_where_their_sums_tell(self):
        web = board(3, 3)
        for word in ("a", "d", "ac", "ca", "bbd", "abcd", "acacdab" * 20, "d" * 199 + "b"):
            along, across = word.count("a") - word.count("b"), word.count("c") - word.count("d")
            ends = [3 * ((x // 3 + across) % 3) + (x + along) % 3 for x in range(9)]
            self.assertEqual(led(web, word), tuple(enumerate(ends)))

    def test_it_has_all_that_may_be_wanted(self):
        web = board(3, 3)
        self.assertEqual([has_code(web), can_hand(web), has_back(web), can_behind(web)], [True] * 4)
        self.assertEqual(len(group(web)), 9)
        self.assertEqual(alike_ends(web), (("a", "b"), ("b", "a"), ("c", "d"), ("d", "c")))

    def test_by_name(self):
        self.assertEqual(board(high=3, wide=3), board(3, 3))
        self.assertEqual(board(3, high=3), board(3, 3))

    def test_more_than_ten_houses(self):
        for wide, high in itertools.product(ROUNDS, repeat=2):
            if (wide, high) != (3, 3):
                with self.assertRaises(TooMany) as caught:
                    board(wide, high)
                self.assertEqual(caught.exception.limit, 10)

    def test_other_numbers(self):
        wrong = ODD + tuple(n for n in NUMBERS if n not in ROUNDS) + (2, 11, "3", "", [3], (3,), PATH)
        for value in wrong:
            for right in (3, 4, 10):
                self.raises(InvalidCount, value, lambda: board(value, right))
                self.raises(InvalidCount, value, lambda: board(right, value))
                self.raises(InvalidCount, value, lambda: board(high=value, wide=right))
        for value, other in itertools.product(wrong[::2], wrong[1::2]):
            self.raises(InvalidCount, value, lambda: board(value, other))
            self.raises(InvalidCount, value, lambda: board(high=other, wide=value))


class NumberedTest(Case):
    def test_drawn_webs(self):
        for web in small_webs() + large_webs():
            told = numbered(web)
            self.assertIs(type(told), Web)
            self.assertEqual(tied(told), tied(web))
            self.assertEqual(told.houses, web.houses)
            for (x, mark), y in steps_of(told).items():
                self.assertEqual(mark, LETTERS[(y - x) % web.houses - 1])
            self.assertEqual(told.plain, plain_by_rule(steps_of(told)))

    def test_words_end_where_their_sums_tell(self):
        for web in small_webs()[::7] + large_webs():
            told = numbered(web)
            for word in (web.marks, told.marks, told.at(0), told.at(0)[0] * 3, told.marks[::-1] * 4):
                further = sum(LETTERS.index(mark) + 1 for mark in word)
                for x, y in led(told, word):
                    self.assertEqual(y, (x + further) % web.houses)

    def test_they_have_all_that_may_be_wanted(self):
        for web in small_webs()[::5] + large_webs():
            told = numbered(web)
            self.assertTrue(all(has_want(told, want) for want in ("code", "hand", "back", "behind")), web.plain)

    def test_numbered_ones_stay(self):
        for web in small_webs()[::9] + [ring(8), board(3, 3)]:
            self.assertEqual(numbered(numbered(web)), numbered(web))
            self.assertEqual(numbered(turned_round(web)), numbered(web))

    def test_nothing_given_is_changed(self):
        web = Web("2 a 1 b\n0 a 1 a")
        numbered(web)
        self.assertEqual([web.text, web.plain], ["2 a 1 b\n0 a 1 a", "0 a 1 a\n1 b 2 a"])


class SameTiesTest(Case):
    def test_the_same_ties_with_other_marks(self):
        for web in small_webs()[::3] + large_webs():
            for other in (web, numbered(web), turned_round(web), turned_round(numbered(web))):
                self.assertIs(same_ties(web, other), True)
                self.assertIs(same_ties(other, web), True)

    def test_against_counting_here(self):
        webs = small_webs()[::11]
        seen = set()
        for web, other in itertools.product(webs, repeat=2):
            wanted = tied(web) == tied(other)
            seen.add(wanted)
            self.assertIs(same_ties(web, other), wanted)
        self.assertEqual(seen, {True, False})

    def test_one_tie_more_or_less(self):
        for web in (ring(4), ring(10), board(3, 3)):
            lines = web.text.split("\n")
            for k in range(len(lines)):
                less = Web("\n".join(lines[:k] + lines[k + 1:]))
                self.assertEqual([same_ties(web, less), same_ties(less, web)], [False, False])
                self.assertIs(same_ties(numbered(less), less), True)

    def test_another_tie_and_another_house(self):
        told = [Web("0 a 1 a\n1 b 2 b"), Web("0 a 1 a\n0 b 2 b"), Web("0 a 1 a"), Web("0 a 1 a\n1 b 2 b\n2 c 3 c")]
        for web, other in itertools.permutations(told, 2):
            self.assertIs(same_ties(web, other), False)

    def test_the_order_of_marks_is_another_one(self):
        # The ties ascend by the marks ahead of the greater houses.
        self.assertIs(same_ties(Web("0 a 1 a\n0 b 2 a"), Web("0 b 1 a\n0 a 2 a")), True)

    def test_web_ahead_of_other(self):
        for value in ODD + ("", PATH.text, [PATH]):
            self.raises(NotAWeb, value, lambda: same_ties(value, PATH))
            self.raises(NotAWeb, value, lambda: same_ties(PATH, value))
            self.raises(NotAWeb, value, lambda: same_ties(other="x", web=value))


if __name__ == "__main__":
    unittest.main()
