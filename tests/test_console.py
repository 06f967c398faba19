"""The console: a book that is led by lines (the interface of whichhouse.console)."""

import inspect
import itertools
import unittest

from tests.cases import Case
from tests.counting import CROWDED, FOUR, PATH, TURNING, WANTS, all_tied, ring, small_webs, turned_round
from tests.test_mending import SEVEN
from tests.values import NUMBERS, ODD, Stranger
from whichhouse.books import Book
from whichhouse.codes import code_of, fewest_codes, has_code
from whichhouse.console import Console
from whichhouse.errors import Broken, InUse, InvalidHouse, InvalidLine, NoCode, NothingToUndo, UnknownName
from whichhouse.webs import Web

# Names that are like the words of lines.
ODD_NAMES = ("drop", "undo", "has", "lacks", "codes", "near", "go", "code", "fewest", "hand", "back", "behind", "a")


def setting(name, web):
    return f"{name} = " + web.text.replace("\n", " / ")


def state(book):
    return ([(name, book[name].text) for name in book.names], book.claims, book.changes)


class ConsoleCase(Case):
    def setUp(self):
        self.console = Console()

    def say(self, line):
        answer = self.console.say(line)
        self.assertIs(type(answer), str)
        return answer

    def refuse(self, error, line, **attributes):
        """Whether a line raises just this error, and changes nothing."""
        before = state(self.console.book)
        with self.subTest(repr(line)[:80]):
            with self.assertRaises(error) as caught:
                self.console.say(line)
            self.assertIs(type(caught.exception), error)
            self.assertEqual(vars(caught.exception), attributes)
            self.assertEqual(state(self.console.book), before)

    def wrong(self, line):
        self.refuse(InvalidLine, line, given=line)


class ExampleTest(ConsoleCase):
    def test_the_examples_of_the_document(self):
        lines = ("p = 0 a 1 a / 1 b 2 a", "p go 2 ab", "p go 2 ba", "p code aab", "p fewest", "p has hand",
                 "p near back 1", "undo")
        self.assertEqual([self.say(line) for line in lines], ["3", "2", "nowhere", "3", "3", "ok", "ok", "ok"])
        self.assertEqual(state(self.console.book), ([("p", PATH.plain)], (("has", "p", "hand"),), 2))


class LineTest(ConsoleCase):
    def test_the_book(self):
        self.assertIs(type(self.console.book), Book)
        self.assertIs(self.console.book, self.console.book)
        self.assertIsNot(Console().book, self.console.book)
        self.assertEqual(state(self.console.book), ([], (), 0))
        self.console.book["q"] = PATH
        self.assertEqual(self.say("q go 0 a"), "1")
        self.assertRaises(AttributeError, setattr, self.console, "book", Book())

    def test_setting(self):
        for web in small_webs()[::9] + [all_tied(10), ring(10), turned_round(PATH)]:
            self.assertEqual(self.say(setting("p", web)), str(web.houses))
            self.assertEqual(self.console.book["p"], web)
            self.assertEqual(self.console.book["p"].text, web.text)
        self.assertEqual(self.say("abcdefgh = 0 a 1 l"), "2")
        self.assertEqual(self.console.book.names, ("abcdefgh", "p"))

    def test_dropping_and_undoing(self):
        for name in ("p", "q"):
            self.say(setting(name, PATH))
        self.assertEqual(self.say("drop p"), "ok")
        self.assertEqual(self.console.book.names, ("q",))
        self.assertEqual(self.say("undo"), "ok")
        self.assertEqual([self.say("undo"), self.say("undo")], ["ok", "ok"])
        self.assertEqual(state(self.console.book), ([], (), 0))
        self.refuse(NothingToUndo, "undo")

    def test_claims(self):
        self.say(setting("p", PATH))
        self.say(setting("q", FOUR))
        said = (
            ("p has code", ("has", "p", "code")), ("p has hand", ("has", "p", "hand")),
            ("p lacks back", ("lacks", "p", "back")), ("q lacks behind", ("lacks", "q", "behind")),
            ("p codes 3", ("codes", "p", 3)), ("p codes 10", ("codes", "p", 10)), ("p codes 99", ("codes", "p", 99)),
            ("p codes 100", ("codes", "p", 100)), ("p near code 0", ("near", "p", "code", 0)),
            ("p near back 1", ("near", "p", "back", 1)), ("q near code 2", ("near", "q", "code", 2)),
        )
        for many, (line, claim) in enumerate(said, 1):
            self.assertEqual(self.say(line), "ok")
            self.assertEqual(self.console.book.claims, tuple(claim for _, claim in said[:many]))
            self.assertEqual([type(part) for part in self.console.book.claims[-1]], [type(part) for part in claim])

    def test_walks(self):
        for web in small_webs()[::9] + [all_tied(10), ring(10)]:
            self.say(setting("w", web))
            for house, word in itertools.product(range(web.houses), ("a", "b", "ab", "ba", "l", "abab" * 50)):
                end = web.go(house, word)
                self.assertEqual(self.say(f"w go {house} {word}"), "nowhere" if end is None else str(end))

    def test_codes(self):
        for web in [web for web in small_webs() if has_code(web)][::5] + [ring(10), all_tied(10)]:
            self.say(setting("w", web))
            for word in ("a", "b", "ab", "aab", "l", "c" * 200):
                number = code_of(web, word)
                self.assertEqual(self.say(f"w code {word}"), "nowhere" if number is None else str(number))
        self.say(setting("w", FOUR))
        for word in ("a", "l"):
            self.refuse(NoCode, f"w code {word}")

    def test_fewest(self):
        for many, web in CROWDED + ((3, TURNING), (10, ring(10)), (9, all_tied(9))):
            self.say(setting("w", web))
            self.assertEqual(self.say("w fewest"), str(many))
        self.say(setting("w", FOUR))
        self.assertEqual([self.say("w fewest"), fewest_codes(FOUR)], ["none", None])

    def test_questions_change_nothing(self):
        self.say(setting("p", PATH))
        before = state(self.console.book)
        for line in ("p go 0 a", "p go 0 l", "p code a", "p code l", "p fewest"):
            self.assertEqual(self.say(line), self.say(line))
            self.assertEqual(state(self.console.book), before)

    def test_names_that_are_like_words(self):
        for name in ODD_NAMES:
            self.assertEqual(self.say(setting(name, PATH)), "3")
            self.assertEqual(self.say(f"{name} has code"), "ok")
            self.assertEqual(self.console.book.claims, (("has", name, "code"),))
            self.assertEqual(self.say(f"{name} go 2 ab"), "2")
            self.assertEqual(self.say(f"{name} code aab"), "3")
            self.assertEqual(self.say(f"{name} codes 3"), "ok")
            self.assertEqual(self.say(f"{name} lacks back"), "ok")
            self.assertEqual(self.say(f"{name} near back 1"), "ok")
            self.refuse(InUse, f"drop {name}", index=0)
            for _ in range(4):
                self.console.book.lift(0)
            if name != "drop":
                self.assertEqual(self.say(f"{name} fewest"), "3")
            self.assertEqual(self.say(f"drop {name}"), "ok")
            self.assertEqual(self.console.book.names, ())

    def test_two_words_with_drop_ahead(self):
        self.say(setting("drop", PATH))
        self.refuse(UnknownName, "drop fewest", given="fewest")
        self.say(setting("fewest", PATH))
        self.assertEqual(self.say("drop fewest"), "ok")
        self.assertEqual(self.console.book.names, ("drop",))
        self.assertEqual(self.say("drop drop"), "ok")
        self.refuse(UnknownName, "drop undo", given="undo")
        self.wrong("drop =")
        self.assertEqual(self.say("undo = 0 a 1 a"), "2")
        self.assertEqual(self.say("undo fewest"), "2")
        self.assertEqual(self.say("undo"), "ok")
        self.assertEqual(self.console.book.names, ())


class RefusedTest(ConsoleCase):
    def setUp(self):
        self.console = Console()
        self.say(setting("p", PATH))
        self.say(setting("q", SEVEN))

    def test_values_that_are_no_lines(self):
        for value in ODD + NUMBERS + (PATH, Stranger(), self.console, ["undo"], ("undo",), b"undo", {"undo": 1},
                                      Console):
            self.raises(InvalidLine, value, lambda: self.console.say(value))
            self.raises(InvalidLine, value, lambda: self.console.say(line=value))
        self.assertEqual(self.console.book.changes, 2)

    def test_other_lines(self):
        for line in (
                "", " ", "p", "q", "=", "drop", "P", "undo undo", "undo p", "undo 1", "drop P", "drop p q", "drop 1",
                "drop abcdefghi", "p =", "p = ", "p = x", "p = 0 a 1", "p = 0 a 1 a /", "p = 0 a 1 a / ",
                "p = / 0 a 1 a",
                "p = 0 a 1 a / 0 b 1 b", "p = 0 a 1 m", "p = 0 a 1 ?", "p = 0 a 2 a", "p == 0 a 1 a", "p 0 a 1 a",
                "p = 0 a 1 a/1 b 2 a", "p = 0 a 1 a / / 1 b 2 a", "p = 0 a 1 a 1 b 2 a", "p = 0 a 1 a\n1 b 2 a",
                "p = 0 a 1 a / 1 b 2 a\n", "p = 00 a 1 a", "p = = 0 a 1 a", "P = 0 a 1 a", "abcdefghi = 0 a 1 a",
                "1 = 0 a 1 a", " = 0 a 1 a", "= 0 a 1 a", "p q = 0 a 1 a", "p has", "p has codes", "p has Code",
                "p has code 1", "p has 1", "p lacks", "p lacks p", "p lacks near", "p codes", "p codes 0",
                "p codes 101",
                "p codes -1", "p codes 03", "p codes +3", "p codes 3.0", "p codes three", "p codes 3 3", "p codes 1_0",
                "p codes 1000000000000", "p code", "p code m", "p code A", "p code a b", "p code 1",
                "p code " + "a" * 201,
                "p near", "p near code", "p near 1", "p near code 3", "p near code -1", "p near code 01",
                "p near code 1 1",
                "p near 1 code", "p near codes 1", "p near code x", "p go", "p go 0", "p go a", "p go a 0",
                "p go 0 a a",
                "p go 10 a", "p go -1 a", "p go 00 a", "p go 01 a", "p go 0 m", "p go 0 A", "p go 0 0", "p go 0 ?",
                "p go 0 " + "a" * 201, "p go x a", "p goes 0 a", "p to 0 a", "p codes 0 a", "p codex a", "p coded 3",
                "p fewest 1", "p fewest fewest", "p Fewest", "p less", "p has has",
                "p lift 0", "p claims", "set p 0 a 1 a", "names", "claims", "UNDO", "Undo", "p UNDO", "p undo",
                "p drop"):
            self.wrong(line)

    def test_lines_bent_by_a_sign_a_word_or_a_space(self):
        for line in ("p = 0 a 1 a / 1 b 2 a", "p has code", "p lacks back", "p codes 3", "p near back 1", "p go 2 ab",
                     "p code aab", "p fewest", "drop p", "undo"):
            for bent in (" " + line, line + " ", line + "\n", "\n" + line, line.replace(" ", "  ", 1), line.upper(),
                         line.replace(" ", "\n", 1), line.replace(" ", "\t", 1), line + " ?", line + ".", "? " + line,
                         line.replace("p", "P", 1), line.replace("p", "p1", 1), line + " /", line + " / ", "/ " + line,
                         line + "\r", "\0" + line, line.capitalize(), line[:-1] + "?", "p " + line):
                if bent != line:
                    self.wrong(bent)
            words = line.split(" ")
            for k in range(len(words)):
                self.wrong(" ".join(words[:k] + words[k + 1:]))
                self.wrong(" ".join(words[:k + 1] + words[k:]))

    def test_unknown_names(self):
        for rest in ("has code", "lacks back", "codes 3", "near code 1", "go 9 a", "go 0 l", "code a", "fewest"):
            for name in ("x", "pp", "undo", "abcdefgh") + (() if rest == "fewest" else ("drop",)):
                self.refuse(UnknownName, f"{name} {rest}", given=name)
        for name in ("x", "undo", "drop", "abcdefgh"):
            self.refuse(UnknownName, f"drop {name}", given=name)

    def test_what_is_no_line_comes_ahead_of_unknown_names(self):
        for line in ("x has codes", "x codes 0", "x near code 3", "x go 10 a", "x go 0 m", "x code m", "x code",
                     "x fewer"):
            self.wrong(line)

    def test_houses(self):
        for house in range(3, 10):
            for word in ("a", "l", "ab" * 100):
                self.refuse(InvalidHouse, f"p go {house} {word}", given=house)
        with self.assertRaises(InvalidHouse) as caught:
            self.console.say("p go 3 a")
        self.assertIs(type(caught.exception.given), int)
        self.assertEqual(self.say("q go 7 g"), "6")

    def test_broken(self):
        for line in ("p has back", "p lacks code", "p codes 2", "p near back 0", "q near code 2"):
            self.refuse(Broken, line, index=0)
        for many, line in enumerate(("p has hand", "p codes 3", "p lacks back")):
            self.refuse(Broken, "p lacks code", index=many)
            self.say(line)
        self.refuse(Broken, setting("p", FOUR), index=0)
        self.refuse(Broken, setting("p", TURNING), index=2)
        self.refuse(Broken, setting("p", CROWDED[0][1]), index=1)
        self.refuse(InUse, "drop p", index=0)
        self.assertEqual(self.say("drop q"), "ok")

    def test_words_of_200_marks(self):
        self.assertEqual(self.say("p go 0 " + "a" * 200), "0")
        self.assertEqual(self.say("p code " + "a" * 200), "0")

    def test_all_wants(self):
        for want in WANTS:
            self.assertEqual(self.say(f"q has {want}"), "ok")
            self.assertEqual(self.say(f"p {'lacks' if 'b' in want else 'has'} {want}"), "ok")


class TwiceTest(ConsoleCase):
    LINES = ("p = 0 a 1 a / 1 b 2 a", "p has hand", "q = 0 a 1 b", "drop q", "undo", "undo", "p codes 3", "p go 0 a",
             "undo",
             "p code aa", "p fewest", "drop p", "p lacks code", "p near back 1", "x fewest", "what", "p go 5 a")

    def answers(self, console):
        told = []
        for line in self.LINES:
            try:
                told.append(console.say(line))
            except (ArithmeticError, LookupError, ValueError) as error:
                told.append((type(error), vars(error)))
        return told

    def test_a_second_console_answers_the_same(self):
        other = Console()
        self.assertEqual(self.answers(self.console), self.answers(other))
        self.assertEqual(state(self.console.book), state(other.book))

    def test_a_book_told_the_same_has_the_same(self):
        self.answers(self.console)
        book = Book()
        book["p"] = Web("0 a 1 a\n1 b 2 a")
        for claim in (("has", "p", "hand"), ("near", "p", "back", 1)):
            book.claim(claim)
        self.assertEqual(state(self.console.book)[:2], state(book)[:2])

    def test_names_of_arguments(self):
        self.assertEqual(list(inspect.signature(self.console.say).parameters), ["line"])
        self.assertEqual([list(inspect.signature(Console).parameters), Console.__module__], [[], "whichhouse.console"])
        self.assertEqual(self.console.say(line="p = 0 a 1 a"), "2")

    def test_equal_only_if_one_object(self):
        self.assertTrue(self.console == self.console)
        self.assertFalse(self.console == Console())
        self.assertTrue(self.console != Console())
        self.assertFalse(self.console == Stranger())
        self.assertTrue(self.console)


if __name__ == "__main__":
    unittest.main()
