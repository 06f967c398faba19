"""What is the text of a web, and what is none (point 6)."""

import re
import unittest

from tests.values import NUMBERS, ODD
from whichhouse.errors import InvalidText, WrongValue
from whichhouse.webs import Web

TEN_IN_A_ROW = "\n".join(f"{k} b {k + 1} a" for k in range(9))
ALL_TIED = "\n".join(
    f"{x} {'abcdefghi'[y - 1]} {y} {'abcdefghi'[x]}" for x in range(10) for y in range(x + 1, 10)
)
STAR = "\n".join(f"0 {'abcdefghijkl'[k]} {k} l" for k in range(1, 10))


def is_text(text):
    """Whether it is the text of a web, decided in another way than the program does."""
    rows = []
    for line in text.split("\n"):
        if not re.fullmatch("[0-9] [a-l] [0-9] [a-l]", line):
            return False
        rows.append((int(line[0]), line[2], int(line[4]), line[6]))
    ends = [(x, m) for x, m, _, _ in rows] + [(y, n) for _, _, y, n in rows]
    pairs = [frozenset((x, y)) for x, _, y, _ in rows]
    if len(set(ends)) < len(ends) or len(set(pairs)) < len(pairs):
        return False
    if min(len(pair) for pair in pairs) < 2:
        return False
    parts = [{house} for house in range(max(x for x, _ in ends) + 1)]
    for pair in pairs:
        touched = [part for part in parts if part & pair]
        parts = [part for part in parts if not part & pair] + [set().union(*touched)]
    return len(parts) == 1


class TextsTest(unittest.TestCase):
    def refused(self, text):
        for make in (lambda: Web(text), lambda: Web(text=text)):
            with self.subTest(repr(text)[:60]):
                with self.assertRaises(InvalidText) as caught:
                    make()
                self.assertIs(caught.exception.given, text)
                self.assertIsInstance(caught.exception, WrongValue)

    def accepted(self, text):
        with self.subTest(repr(text)[:60]):
            self.assertEqual(Web(text).text, text)
            self.assertEqual(Web(text=text).text, text)

    def test_two_houses(self):
        for text in ("0 a 1 a", "1 a 0 a", "0 a 1 l", "0 l 1 b"):
            self.accepted(text)

    def test_ten_houses(self):
        self.assertEqual(Web(TEN_IN_A_ROW).houses, 10)
        self.assertEqual(Web(STAR).houses, 10)
        self.assertEqual(Web(ALL_TIED).houses, 10)
        self.assertEqual(len(Web(ALL_TIED).ties), 45)

    def test_all_marks_and_all_houses_may_stand_anywhere(self):
        for mark in "abcdefghijkl":
            self.assertEqual(Web(f"0 {mark} 1 a").at(0), mark)
            self.assertEqual(Web(f"0 a 1 {mark}").at(1), mark)

    def test_other_values_than_strings(self):
        for value in ODD + NUMBERS:
            self.refused(value)
        self.refused(["0 a 1 a"])
        self.refused(("0 a 1 a",))
        self.refused(((0, "a", 1, "a"),))
        self.refused(Web("0 a 1 a"))

    def test_lines_and_spaces(self):
        for text in (
            "", " ", "\n", "\n\n", "0", "0 a", "0 a 1", "0 a 1 a b", "0 a 1 a 2", "0 a 1 a 1 b 2 a",
            "0 a 1 a\n", "\n0 a 1 a", "0 a 1 a\n\n1 b 2 a", "0 a 1 a\n ", "0 a 1 a \n1 b 2 a",
            " 0 a 1 a", "0 a 1 a ", "0  a 1 a", "0 a  1 a", "0 a 1  a", "0a 1 a", "0 a1 a", "0 a 1a", "0a1a",
            "0,a,1,a", "0 a 1 a / 1 b 2 a", "0 a 1 a;1 b 2 a", "0_a_1_a", "0 a\n1 a",
        ):
            self.refused(text)

    def test_integers(self):
        for text in (
            "00 a 1 a", "0 a 01 a", "0 a 1 a\n01 b 2 a", "+0 a 1 a", "0 a +1 a", "-0 a 1 a", "0 a -1 a", "-1 a 0 a",
            "0.0 a 1 a", "0 a 1.0 a", "0x0 a 1 a", "0 a 1_ a", "a 0 a 1", "a a 1 a", "0 a b a", " a 1 a", "0 a  a",
            "'0' a 1 a", "() a 1 a",
        ):
            self.refused(text)

    def test_a_house_too_great(self):
        self.refused(TEN_IN_A_ROW + "\n9 b 10 a")
        self.refused(TEN_IN_A_ROW + "\n10 a 9 b")
        self.refused("0 a 10 a")
        self.refused("0 a 1 a\n1 b 11 a")
        self.refused("0 a 1 a\n1 b 100000000000000000000 a")

    def test_a_house_left_out(self):
        for text in ("1 a 2 a", "0 a 2 a", "0 a 9 a", "0 a 1 a\n1 b 3 a", "1 a 2 a\n2 b 3 a", "8 a 9 a"):
            self.refused(text)

    def test_a_tie_from_a_house_to_itself(self):
        for text in ("0 a 0 b", "0 a 0 a", "0 a 1 a\n1 b 1 c", "1 b 1 c\n0 a 1 a", "0 a 1 a\n0 b 0 b"):
            self.refused(text)

    def test_two_ties_between_the_same_houses(self):
        for text in ("0 a 1 a\n0 b 1 b", "0 a 1 a\n1 b 0 b", "0 a 1 a\n0 a 1 a", "1 b 2 b\n0 a 1 a\n2 a 1 c"):
            self.refused(text)

    def test_a_mark_twice_at_one_house(self):
        for text in (
            "0 a 1 a\n1 a 2 a", "0 a 1 a\n2 a 1 a", "1 a 0 a\n1 a 2 b", "0 b 1 a\n0 b 2 a", "1 a 0 b\n2 a 0 b",
            "0 a 2 c\n1 a 2 c\n0 b 1 b",
        ):
            self.refused(text)

    def test_letters_beyond_l_and_other_signs(self):
        for sign in ("m", "z", "A", "L", "`", "?", "1", "0", "ab", "aa", "abcdefghijkl", "", " ", "'a'"):
            self.refused(f"0 {sign} 1 a")
            self.refused(f"0 a 1 {sign}")
            self.refused(f"0 a 1 a\n1 {sign} 2 a")

    def test_houses_that_do_not_hang_together(self):
        for text in (
            "0 a 1 a\n2 a 3 a", "0 a 1 a\n2 a 3 b\n3 a 4 b\n4 a 2 b", "0 a 3 a\n1 a 2 a", "0 a 9 a\n" + "\n".join(
                f"{k} b {k + 1} a" for k in range(1, 8)
            ),
        ):
            self.refused(text)
        self.accepted("0 a 1 a\n2 a 3 a\n1 b 2 b")
        self.accepted("2 a 3 a\n8 a 9 b\n0 a 1 a\n4 a 5 a\n6 a 7 a\n7 b 8 b\n5 b 6 b\n3 b 4 b\n1 b 2 b")
        self.accepted("0 a 9 a\n1 a 8 b\n2 a 7 b\n3 a 6 b\n4 a 5 b\n9 b 1 b\n8 a 2 b\n7 a 3 b\n6 a 4 b")

    def test_texts_one_sign_away_from_a_text(self):
        alphabet = "\n 01234569abclm-+?A"
        seen = {True: 0, False: 0}
        for base in ("0 a 1 a", "2 a 1 b\n0 a 1 a", "0 a 1 b\n1 a 2 b\n2 a 0 b", "0 a 1 a\n1 b 2 a\n2 b 3 a"):
            near = {base[:k] + sign + base[k + 1:] for k in range(len(base)) for sign in alphabet}
            near |= {base[:k] + sign + base[k:] for k in range(len(base) + 1) for sign in alphabet}
            near |= {base[:k] + base[k + 1:] for k in range(len(base))}
            for text in sorted(near):
                wanted = is_text(text)
                seen[wanted] += 1
                try:
                    told = Web(text).text == text
                except InvalidText as error:
                    told = error.given != text
                with self.subTest(text):
                    self.assertEqual(told, wanted)
        self.assertGreater(min(seen.values()), 50)


if __name__ == "__main__":
    unittest.main()
