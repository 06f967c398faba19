"""Webs: their properties, walks, equality and changes (points 3 to 7 and 13)."""

import itertools
import unittest

from tests.cases import Case
from tests.test_web_texts import ALL_TIED, STAR, TEN_IN_A_ROW
from tests.values import NUMBERS, ODD, Stranger
from whichhouse.errors import InvalidHouse, InvalidMark, InvalidText, InvalidWord
from whichhouse.webs import Web

TURNING = "0 a 1 b\n1 a 2 b\n2 a 0 b"
PATH = "2 a 1 b\n0 a 1 a"
FOUR = "0 a 1 a\n1 b 2 a\n2 b 3 a"
TEXTS = (
    TURNING, PATH, FOUR, TEN_IN_A_ROW, STAR, ALL_TIED, "0 a 1 a", "1 l 0 c", "0 b 1 a\n0 a 2 a", "2 a 0 a\n0 b 1 a",
)
PROPERTIES = ("text", "plain", "houses", "marks", "ties")
STRINGS = ("", " ", "m", "A", "aa", "?", "0", "a ", "\n", "abcdefghijkl")


def rows_of(text):
    """Both directions of each line of a text: (house, mark, other, its mark)."""
    rows = [line.split(" ") for line in text.split("\n")]
    ahead = [(int(x), m, int(y), n) for x, m, y, n in rows]
    return ahead + [(y, n, x, m) for x, m, y, n in ahead]


def walked(text, house, word):
    """Where a word ends, read off the text alone."""
    for mark in word:
        found = [y for x, m, y, _ in rows_of(text) if (x, m) == (house, mark)]
        if not found:
            return None
        house = found[0]
    return house


class ExampleTest(unittest.TestCase):
    def test_the_examples_of_the_document(self):
        turning, path = Web("0 a 1 b\n1 a 2 b\n2 a 0 b"), Web("2 a 1 b\n0 a 1 a")
        told = [
            path.plain, path.houses, path.at(1), path.ties, path.go(2, "ab"), path.go(2, "ba"), turning.marks,
            path.changed(1, "b", "c").plain,
        ]
        self.assertEqual(told, [
            "0 a 1 a\n1 b 2 a", 3, "ab", ((0, "a", 1, "a"), (1, "b", 2, "a")), 2, None, "ab", "0 a 1 a\n1 c 2 a",
        ])


class PropertiesTest(Case):
    def test_text_is_as_passed(self):
        for text in TEXTS:
            self.assertEqual(Web(text).text, text)
            self.assertEqual(Web(text=text).text, text)

    def test_plain_has_the_lesser_house_ahead_and_the_lines_in_order(self):
        self.assertEqual(Web("1 c 0 d").plain, "0 d 1 c")
        self.assertEqual(Web(TURNING).plain, "0 a 1 b\n0 b 2 a\n1 a 2 b")
        self.assertEqual(Web(FOUR).plain, FOUR)
        for order in itertools.permutations(FOUR.split("\n")):
            self.assertEqual(Web("\n".join(order)).plain, FOUR)
        for turned in itertools.product((False, True), repeat=3):
            lines = []
            for line, turn in zip(FOUR.split("\n"), turned):
                x, m, y, n = line.split(" ")
                lines.append(f"{y} {n} {x} {m}" if turn else line)
            self.assertEqual(Web("\n".join(lines)).plain, FOUR)

    def test_plain_goes_by_houses_and_not_by_marks(self):
        web = Web("0 a 2 a\n0 b 1 a")
        self.assertEqual(web.plain, "0 b 1 a\n0 a 2 a")
        self.assertEqual(web.ties, ((0, "a", 2, "a"), (0, "b", 1, "a")))

    def test_ties_and_houses_and_marks_of_many_webs(self):
        for text in TEXTS:
            web, rows = Web(text), rows_of(text)
            with self.subTest(text):
                self.assertEqual(web.ties, tuple(sorted(row for row in rows if row[0] < row[2])))
                self.assertEqual(web.houses, max(row[0] for row in rows) + 1)
                self.assertEqual(web.marks, "".join(sorted({row[1] for row in rows})))
                lesser = sorted((x, y, m, n) for x, m, y, n in rows if x < y)
                self.assertEqual(web.plain, "\n".join(f"{x} {m} {y} {n}" for x, y, m, n in lesser))

    def test_kinds_of_values(self):
        web = Web(PATH)
        for value, kind in (
            (web.text, str), (web.plain, str), (web.houses, int), (web.marks, str), (web.ties, tuple),
            (web.ties[0], tuple), (web.at(0), str), (web.go(0, "a"), int), (web.changed(0, "a", "b"), Web),
        ):
            self.assertIs(type(value), kind)

    def test_marks_that_stand_at_one_end_only(self):
        self.assertEqual(Web("0 l 1 c").marks, "cl")
        self.assertEqual(Web("0 c 1 l").marks, "cl")
        self.assertEqual(Web("0 k 1 k").marks, "k")

    def test_properties_cannot_be_set(self):
        web = Web(PATH)
        for name in PROPERTIES:
            with self.subTest(name):
                self.assertIsInstance(vars(Web)[name], property)
                with self.assertRaises(AttributeError):
                    setattr(web, name, getattr(web, name))

    def test_methods_are_defined_in_the_class_itself(self):
        for name in ("at", "go", "changed", "__eq__", "__str__"):
            self.assertIn(name, vars(Web))
        self.assertEqual(Web.__module__, "whichhouse.webs")


class AtTest(Case):
    def test_the_marks_of_each_house_in_order(self):
        self.assertEqual(Web("0 c 1 b\n0 a 2 a\n0 b 3 l").at(0), "abc")
        for text in TEXTS:
            web = Web(text)
            for house in range(web.houses):
                wanted = "".join(sorted(row[1] for row in rows_of(text) if row[0] == house))
                self.assertEqual(web.at(house), wanted)
                self.assertEqual(web.at(house=house), wanted)

    def test_wrong_houses(self):
        web = Web(PATH)
        for house in ODD + STRINGS + (-1, -3, 3, 10, 10 ** 39, -(10 ** 39)):
            self.raises(InvalidHouse, house, lambda: web.at(house))
            self.raises(InvalidHouse, house, lambda: web.at(house=house))
        ten = Web(TEN_IN_A_ROW)
        self.assertEqual(ten.at(9), "a")
        self.raises(InvalidHouse, 10, lambda: ten.at(10))


class GoTest(Case):
    def test_all_short_words_of_many_webs(self):
        for text in TEXTS:
            web = Web(text)
            for many in (1, 2, 3):
                for letters in itertools.product("abl", repeat=many):
                    word = "".join(letters)
                    for house in range(web.houses):
                        self.assertEqual(web.go(house, word), walked(text, house, word))

    def test_by_name(self):
        web = Web(PATH)
        self.assertEqual(web.go(house=2, word="ab"), 2)
        self.assertEqual(web.go(word="ab", house=2), 2)
        self.assertEqual(web.go(2, word="ab"), 2)

    def test_house_0_is_told_as_an_integer(self):
        told = Web(PATH).go(1, "a")
        self.assertEqual(told, 0)
        self.assertIsNot(told, None)
        self.assertIsNot(told, False)

    def test_the_mark_counts_that_stands_where_one_is(self):
        web = Web("0 a 1 b\n1 a 2 c")
        self.assertEqual([web.go(0, "a"), web.go(1, "b"), web.go(1, "a"), web.go(2, "c")], [1, 0, 2, 1])
        self.assertEqual([web.go(0, "b"), web.go(0, "c"), web.go(1, "c"), web.go(2, "a")], [None] * 4)

    def test_a_walk_that_stops_in_the_middle_has_no_end(self):
        web = Web(FOUR)
        self.assertEqual(web.go(0, "abb"), 3)
        self.assertIsNone(web.go(0, "abbb"))
        self.assertIsNone(web.go(0, "abbba"))
        self.assertIsNone(web.go(0, "ba"))
        self.assertIsNone(web.go(0, "l"))

    def test_long_words(self):
        web = Web(TURNING)
        self.assertEqual(web.go(0, "a" * 200), 2)
        self.assertEqual(web.go(0, "a" * 199), 1)
        self.assertEqual(web.go(1, "ab" * 100), 1)
        self.assertIsNone(web.go(0, "a" * 199 + "c"))

    def test_wrong_words(self):
        web = Web(TURNING)
        for word in ODD + NUMBERS + (
            "", " ", "m", "A", "?", "0", "\n", "a ", " a", "a b", "am", "ma", "aA", "a\n", "a" * 201, "a" * 199 + "m",
            "c" * 201, ("a", "b"), ["a", "b"],
        ):
            self.raises(InvalidWord, word, lambda: web.go(0, word))
            self.raises(InvalidWord, word, lambda: web.go(house=0, word=word))

    def test_wrong_houses(self):
        web = Web(TURNING)
        for house in ODD + STRINGS + (-1, 3, 10 ** 39):
            self.raises(InvalidHouse, house, lambda: web.go(house, "a"))

    def test_the_house_is_looked_at_first(self):
        web = Web(TURNING)
        for house in (None, True, 3, -1, "0", [0]):
            for word in (None, "", "m", 7, ["a"], "a" * 201):
                self.raises(InvalidHouse, house, lambda: web.go(house, word))
                self.raises(InvalidHouse, house, lambda: web.go(word=word, house=house))


class ChangedTest(Case):
    def test_each_change_of_many_webs(self):
        for text in (TURNING, PATH, FOUR, STAR, "0 a 1 a", "0 b 1 a\n0 a 2 a"):
            web = Web(text)
            for x, m, y, n in rows_of(text):
                for other in "abcdefghijkl":
                    if other in web.at(x):
                        self.raises(InvalidMark, other, lambda: web.changed(x, m, other))
                        continue
                    rest = [row for row in web.ties if row not in ((x, m, y, n), (y, n, x, m))]
                    fresh = (x, other, y, n) if x < y else (y, n, x, other)
                    told = web.changed(x, m, other)
                    self.assertEqual(told.ties, tuple(sorted(rest + [fresh])))
                    self.assertEqual(told.at(y), web.at(y))
                    self.assertEqual(web.text, text)
                    self.assertEqual(web, Web(text))

    def test_at_the_greater_house(self):
        self.assertEqual(Web("0 a 1 a").changed(1, "a", "b").plain, "0 a 1 b")
        self.assertEqual(Web("0 a 1 a").changed(0, "a", "b").plain, "0 b 1 a")

    def test_by_name(self):
        web = Web(PATH)
        wanted = Web("0 a 1 a\n1 c 2 a")
        self.assertEqual(web.changed(house=1, mark="b", other="c"), wanted)
        self.assertEqual(web.changed(other="c", mark="b", house=1), wanted)
        self.assertEqual(web.changed(1, "b", other="c"), wanted)

    def test_one_behind_the_other(self):
        web = Web(PATH)
        one = web.changed(1, "b", "c")
        two = one.changed(1, "a", "b")
        three = two.changed(0, "a", "l")
        self.assertEqual(one.plain, "0 a 1 a\n1 c 2 a")
        self.assertEqual(two.plain, "0 a 1 b\n1 c 2 a")
        self.assertEqual(three.plain, "0 l 1 b\n1 c 2 a")
        self.assertEqual([web.plain, web.text], ["0 a 1 a\n1 b 2 a", PATH])
        self.assertEqual([three.go(0, "l"), three.go(1, "b"), three.go(0, "a"), three.marks], [1, 0, None, "abcl"])

    def test_a_change_and_the_one_back(self):
        for text in TEXTS:
            web = Web(text)
            for x, m, _, _ in rows_of(text):
                free = [letter for letter in "abcdefghijkl" if letter not in web.at(x)]
                back = web.changed(x, m, free[0]).changed(x, free[0], m)
                self.assertTrue(back == web)
                self.assertFalse(back != web)
                self.assertFalse(web.changed(x, m, free[0]) == web)

    def test_equal_webs_come_by_equal_changes(self):
        one, two = Web(PATH).changed(1, "b", "c"), Web("0 a 1 a\n1 b 2 a").changed(1, "b", "c")
        self.assertEqual(one, two)
        self.assertEqual([getattr(one, name) for name in PROPERTIES], [getattr(two, name) for name in PROPERTIES])
        self.assertEqual(Web(one.text), one)

    def test_wrong_houses(self):
        web = Web(PATH)
        for house in ODD + STRINGS + (-1, 3, 10, 10 ** 39):
            self.raises(InvalidHouse, house, lambda: web.changed(house, "a", "c"))

    def test_wrong_marks(self):
        web = Web(PATH)
        for mark in ODD + NUMBERS + ("", " ", "m", "A", "ab", "ba", "c", "l", "?", "\n", "a ", ("a",), ["a"]):
            self.raises(InvalidMark, mark, lambda: web.changed(1, mark, "d"))
            self.raises(InvalidMark, mark, lambda: web.changed(house=1, mark=mark, other="d"))
        self.raises(InvalidMark, "b", lambda: web.changed(0, "b", "d"))

    def test_wrong_other_marks(self):
        web = Web(PATH)
        for other in ODD + NUMBERS + ("", " ", "m", "A", "cd", "a", "b", "ab", "?", "\n", "c ", ("c",), ["c"]):
            self.raises(InvalidMark, other, lambda: web.changed(1, "b", other))
            self.raises(InvalidMark, other, lambda: web.changed(house=1, mark="b", other=other))
        self.assertEqual(web.changed(0, "a", "b").at(0), "b")

    def test_the_first_in_the_order_of_the_signature_is_raised(self):
        web = Web(PATH)
        for house in (None, True, 3, "1"):
            for mark, other in ((None, None), ("l", "c"), ("a", "a"), ([], "m"), ("b", [])):
                self.raises(InvalidHouse, house, lambda: web.changed(other=other, mark=mark, house=house))
        for mark in ("l", None, ["a"], "ab", 1):
            for other in ("a", "m", None, 2, ["c"]):
                self.raises(InvalidMark, mark, lambda: web.changed(other=other, mark=mark, house=1))

    def test_an_error_changes_nothing(self):
        web = Web(PATH)
        for action in (
            lambda: web.changed(1, "b", "a"), lambda: web.changed(1, "c", "d"), lambda: web.changed(7, "b", "c"),
            lambda: web.go(0, ""), lambda: web.go(7, "a"), lambda: web.at(7),
        ):
            self.assertRaises(ValueError, action)
            self.assertEqual([web.text, web.plain, web.marks, web.at(1)], [PATH, "0 a 1 a\n1 b 2 a", "ab", "ab"])


class EqualityTest(Case):
    def test_equal_just_if_the_plain_texts_are(self):
        for one in TEXTS:
            for two in TEXTS:
                same = Web(one).plain == Web(two).plain
                self.assertIs(Web(one) == Web(two), same)
                self.assertIs(Web(one) != Web(two), not same)

    def test_the_order_of_lines_and_houses_does_not_count(self):
        self.assertTrue(Web(PATH) == Web("0 a 1 a\n1 b 2 a"))
        self.assertFalse(Web(PATH) != Web("1 a 0 a\n1 b 2 a"))
        self.assertFalse(Web("0 a 1 b") == Web("0 b 1 a"))
        self.assertTrue(Web("0 a 1 b") != Web("0 b 1 a"))

    def test_never_equal_to_other_values(self):
        web = Web(PATH)
        for other in ODD + NUMBERS + STRINGS + (web.text, web.plain, web.ties, [web], (web,), InvalidText, Web):
            with self.subTest(repr(other)[:60]):
                self.assertIs(web == other, False)
                self.assertIs(web != other, True)
        for other in (web.plain, web.ties, None, 0, [web], ("a",)):
            self.assertIs(other == web, False)
            self.assertIs(other != web, True)
        self.assertIs(web == Stranger(), False)

    def test_str_is_the_plain_text(self):
        for text in TEXTS:
            self.assertEqual(str(Web(text)), Web(text).plain)
            self.assertIs(type(str(Web(text))), str)

    def test_webs_are_true(self):
        for text in TEXTS:
            self.assertIs(bool(Web(text)), True)

    def test_equal_calls_tell_equal_things(self):
        for text in TEXTS:
            one, two = Web(text), Web(text)
            for name in PROPERTIES:
                self.assertEqual(getattr(one, name), getattr(two, name))
                self.assertEqual(getattr(one, name), getattr(one, name))
            self.assertEqual(one.at(0), two.at(0))
            self.assertEqual(one.go(0, "ab"), two.go(0, "ab"))


if __name__ == "__main__":
    unittest.main()
