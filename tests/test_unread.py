"""Torn texts, their readings, and what holds for all of them."""

import itertools
import random
import time
import unittest

from tests.cases import Case
from tests.counting import EACH_WAY, FOUR, LETTERS, PATH, TURNING, WANTS, all_tied, random_web, ring, small_webs, star
from tests.counting import wanted
from tests.test_web_texts import is_text
from tests.values import NUMBERS, ODD
from whichhouse.errors import InvalidLetters, InvalidText, InvalidWant, NoCode
from whichhouse.unread import readings, sure
from whichhouse.webs import Web


def fillings(text, letters):
    """All texts with one of the letters for each unread mark, also those that are no text of a web."""
    parts = text.split("?")
    for row in itertools.product(letters, repeat=len(parts) - 1):
        yield parts[0] + "".join(letter + part for letter, part in zip(row, parts[1:]))


def readings_of(text, letters):
    """The plain texts of all readings, by trying all letters."""
    return tuple(sorted({Web(one).plain for one in fillings(text, letters) if is_text(one)}))


def torn(text, places):
    """The text with some of its marks unread, counted from 0."""
    marks = [at for at, sign in enumerate(text) if sign in LETTERS]
    return "".join("?" if at in [marks[k] for k in places] else sign for at, sign in enumerate(text))


def torn_texts():
    """Texts of small webs with none, one, two and three marks unread."""
    for web in [PATH, TURNING, FOUR, Web("0 a 1 a"), star(3, "ab")] + small_webs()[::25]:
        many = 2 * len(web.ties)
        for unread in range(4):
            yield from (torn(web.text, places) for places in list(itertools.combinations(range(many), unread))[::4])


class ExampleTest(Case):
    def test_the_examples_of_the_document(self):
        told = [
            readings("0 a 1 a\n1 ? 2 a", "abc"), sure("0 a 1 a\n1 ? 2 a", "abc", "code"),
            sure("0 a 1 a\n1 b 2 a\n2 b 3 ?", "ab", "code"), readings("0 a 1 ?", "ab"),
        ]
        self.assertEqual(told, [
            ("0 a 1 a\n1 b 2 a", "0 a 1 a\n1 c 2 a"), "always", "some", ("0 a 1 a", "0 a 1 b"),
        ])


class ReadingsTest(Case):
    def test_small_webs_against_trying_all_letters(self):
        seen = set()
        for text in torn_texts():
            for letters in ("a", "ab", "bd", "abcl"):
                told = readings(text, letters)
                self.assertEqual(told, readings_of(text, letters), (text, letters))
                seen.add((text.count("?"), min(len(told), 2)))
        self.assertLessEqual({(k, many) for k in (1, 2, 3) for many in (0, 1, 2)} | {(0, 1)}, seen)

    def test_all_letters(self):
        for text in ("0 ? 1 ?", "0 a 1 ?\n1 ? 2 ?", "2 ? 1 ?\n0 a 1 ?", "0 a 1 b\n1 a 2 b\n2 a 0 ?"):
            self.assertEqual(readings(text, LETTERS), readings_of(text, LETTERS))
        self.assertEqual(len(readings("0 ? 1 ?", LETTERS)), 144)
        self.assertEqual(len(readings("0 ? 1 ?\n1 ? 2 a", LETTERS)), 12 * 12 * 11)

    def test_nothing_is_unread(self):
        for text in ("0 a 1 a", "1 a 0 a", PATH.text, TURNING.text, all_tied(10).text):
            for letters in ("a", "l", LETTERS):
                self.assertEqual(readings(text, letters), (Web(text).plain,))

    def test_two_and_three_marks_at_one_house(self):
        self.assertEqual(readings("0 ? 1 a\n0 ? 2 a", "ab"), ("0 a 1 a\n0 b 2 a", "0 b 1 a\n0 a 2 a"))
        self.assertEqual(readings("0 ? 1 a\n0 ? 2 a", "a"), ())
        self.assertEqual(len(readings("0 ? 1 a\n0 ? 2 a\n0 ? 3 a", "abc")), 6)
        self.assertEqual(len(readings("0 ? 1 a\n0 ? 2 a\n0 ? 3 a", LETTERS)), 12 * 11 * 10)
        self.assertEqual(readings("0 ? 1 a\n0 ? 2 a\n0 ? 3 a", "ab"), ())

    def test_marks_that_stand_at_the_house_already(self):
        self.assertEqual(readings("0 a 1 a\n1 ? 2 a", "a"), ())
        self.assertEqual(readings("0 a 1 a\n1 ? 2 a", "ab"), ("0 a 1 a\n1 b 2 a",))
        self.assertEqual(readings("2 a 1 ?\n0 a 1 a", "ab"), ("0 a 1 a\n1 b 2 a",))

    def test_house_by_house_the_lines_come_in_order(self):
        self.assertEqual(readings("2 ? 1 b\n0 a 1 a", "cd"), ("0 a 1 a\n1 b 2 c", "0 a 1 a\n1 b 2 d"))

    def test_torn_texts_without_readings_are_torn_texts(self):
        for text in ("0 a 1 a\n1 ? 2 a", "0 ? 1 a\n0 ? 2 a", "0 a 1 a\n1 ? 2 a\n1 ? 3 a"):
            self.assertEqual(readings(text, "a"), ())
            for want in WANTS:
                with self.assertRaises(NoCode):
                    sure(text, "a", want)
        full = torn(star(9, "a").text, (0, 2, 4))
        self.assertEqual(readings(full, "defghi"), ())
        self.assertEqual(len(readings(full, "abc")), 6)

    def test_kinds_of_values_and_names(self):
        told = readings(letters="ab", text="0 ? 1 a")
        self.assertEqual([type(told)] + [type(text) for text in told], [tuple, str, str])

    def test_large_webs_within_seconds(self):
        source = random.Random(5)
        webs = [ring(10), star(9, "a"), all_tied(10), random_web(source, 10, 0, 12), random_web(source, 10, 3, 12)]
        for web in webs:
            for places in ((0, 1, 2), (0, 7, 12)):
                begun = time.monotonic()
                told = readings(torn(web.text, places), LETTERS)
                self.assertLess(time.monotonic() - begun, 10)
                self.assertIn(web.plain, told)
                self.assertEqual(list(told), sorted(set(told)))
                for want in WANTS:
                    begun = time.monotonic()
                    self.assertIn(sure(torn(web.text, places), LETTERS, want), ("always", "never", "some"))
                    self.assertLess(time.monotonic() - begun, 10)


class TornTest(Case):
    def refused(self, text):
        self.raises(InvalidText, text, lambda: readings(text, "ab"))
        self.raises(InvalidText, text, lambda: readings(letters="ab", text=text))
        self.raises(InvalidText, text, lambda: sure(text, "ab", "code"))

    def test_more_than_three_marks_unread(self):
        for text in ("0 ? 1 ?\n1 ? 2 ?", "0 ? 1 ?\n1 ? 2 ?\n2 ? 3 ?", "0 a 1 ?\n1 ? 2 ?\n2 ? 3 a"):
            self.refused(text)
        self.assertEqual(len(readings("0 ? 1 ?\n1 ? 2 b", "ab")), 4)

    def test_what_is_unread_is_no_mark(self):
        for text in (
            "? a 1 a", "0 a ? a", "0 a 1 a\n? b 2 a", "0 a 1 a?", "0 a 1 a ?", "?", "??", "0 ?? 1 a", "0 ?a 1 a",
            "0 a 1 a\n?", "0?a 1 a", "0 a 1 a?1 b 2 a", "0 a 1? a", "1? a 0 a",
        ):
            self.refused(text)

    def test_what_is_no_text_of_a_web_otherwise(self):
        for text in (
            "", "\n", "0 ? 0 a", "0 ? 1 m", "0 ? 2 a", "1 ? 2 a", "0 ? 1 a\n", "0  ? 1 a", "0 ? 1 a 2", "00 ? 1 a",
            "0 ? 1 a\n2 a 3 a", "0 ? 1 a\n0 ? 1 b", "0 ? 1 a\n1 a 2 b", "0 a 1 ?\n0 a 2 b", "0 ? 10 a", "0 A 1 ?",
            "0 a 1 b c", "0 a 1 a\n1 a 2 a",
        ):
            self.refused(text)

    def test_other_values_than_strings(self):
        for text in ODD + NUMBERS + (PATH, ("0 a 1 ?",), ["0 a 1 ?"]):
            self.refused(text)

    def test_texts_one_sign_away_from_a_torn_text(self):
        seen = {True: 0, False: 0}
        for base in ("0 ? 1 a", "2 a 1 ?\n0 a 1 ?", "0 a 1 ?\n1 a 2 ?\n2 a 0 ?"):
            near = {base[:k] + sign + base[k + 1:] for k in range(len(base)) for sign in "\n 0123abm?"}
            near |= {base[:k] + sign + base[k:] for k in range(len(base) + 1) for sign in "\n 0123abm?"}
            near |= {base[:k] + base[k + 1:] for k in range(len(base))}
            for text in sorted(near):
                # Four letters are enough for webs with so few ties.
                right = text.count("?") <= 3 and any(is_text(one) for one in fillings(text, "abcd"))
                seen[right] += 1
                try:
                    told = readings(text, "abcd") == readings_of(text, "abcd")
                except InvalidText:
                    told = False
                with self.subTest(text):
                    self.assertEqual(told, right)
        self.assertGreater(min(seen.values()), 20)


class LettersTest(Case):
    def test_wrong_letters(self):
        for letters in ODD + NUMBERS + (
            "", "aa", "aab", "abb", "ba", "acb", "abcdefghijkla", "abcdefghijklm", "m", "am", "A", "abC", " ", "a b",
            " a", "a ", "a,b", "?", "a?", "\n", "a\n", "1", "lk", "bcda", ("a",), ["a"], ("a", "b"), LETTERS * 2,
        ):
            for text in ("0 a 1 ?", "0 a 1 a"):
                self.raises(InvalidLetters, letters, lambda: readings(text, letters))
                self.raises(InvalidLetters, letters, lambda: readings(letters=letters, text=text))
                self.raises(InvalidLetters, letters, lambda: sure(text, letters, "code"))

    def test_all_ascending_strings_are_let(self):
        for many in (1, 2, 3, 11, 12):
            for letters in itertools.combinations(LETTERS, many):
                wanted_texts = tuple(f"0 a 1 {letter}" for letter in letters)
                self.assertEqual(readings("0 a 1 ?", "".join(letters)), wanted_texts)


class SureTest(Case):
    def test_small_webs_against_all_readings(self):
        seen, known = set(), {}
        for text in list(torn_texts())[::3]:
            for letters, want in itertools.product(("ab", "acd"), WANTS):
                told = []
                for one in readings_of(text, letters):
                    if (one, want) not in known:
                        known[one, want] = wanted(Web(one), want)
                    told.append(known[one, want])
                with self.subTest(text, letters=letters, want=want):
                    if not told:
                        self.assertRaises(NoCode, sure, text, letters, want)
                        continue
                    expected = "always" if all(told) else "some" if any(told) else "never"
                    self.assertEqual(sure(text, letters, want), expected)
                    seen.add((want, expected))
        self.assertEqual(seen, set(itertools.product(WANTS, ("always", "never", "some"))))

    def test_nothing_is_unread(self):
        for has, web in EACH_WAY:
            for want, true in zip(WANTS, has):
                self.assertEqual(sure(web.text, "a", want), "always" if true else "never")

    def test_by_name(self):
        self.assertEqual(sure(want="code", letters="ab", text="0 a 1 a\n1 b 2 a\n2 b 3 ?"), "some")

    def test_errors_come_in_order(self):
        self.raises(InvalidText, "0 a 1", lambda: sure("0 a 1", "ba", "codes"))
        self.raises(InvalidLetters, "ba", lambda: sure("0 a 1 ?", "ba", "codes"))
        self.raises(InvalidWant, "codes", lambda: sure("0 a 1 ?", "ab", "codes"))
        self.raises(InvalidWant, "codes", lambda: sure("0 ? 1 a\n0 ? 2 a", "a", "codes"))
        self.assertRaises(NoCode, sure, "0 ? 1 a\n0 ? 2 a", "a", "code")


if __name__ == "__main__":
    unittest.main()
