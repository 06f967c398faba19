"""What all functions ask of their arguments (points 3 to 5): by place and by name, and which error comes first."""

import inspect
import itertools
import unittest

from tests.cases import Case
from tests.counting import FOUR, PATH, TURNING, all_tied, ring, star
from tests.values import NUMBERS, ODD, Stranger
from whichhouse import backwards, certificates, codes, ends, handing, making, mending, unread, visits, walks
from whichhouse.errors import InvalidCount, InvalidHouse, InvalidLetters, InvalidMark, InvalidPair, InvalidText
from whichhouse.errors import InvalidWant, InvalidWord, NoAnswer, NoCode, NotAWeb, TooMany, WrongValue
from whichhouse.webs import Web

WEB = (PATH, NotAWeb, ODD + NUMBERS + (
    "", "a", PATH.text, PATH.plain, PATH.ties, Web, [PATH], (PATH,), {"web": PATH}, (PATH.text,),
))
WORD = ("ab", InvalidWord, ODD + NUMBERS + (
    "", " ", "m", "A", "?", "0", "\n", "a ", " a", "a b", "am", "ma", "a\n", "a" * 201, "a" * 199 + "m", "m" * 200,
    "a" * 4000, ("a", "b"), ["a", "b"], PATH,
))
PAIR = ((0, 1), InvalidPair, ODD + NUMBERS + (
    "", "01", "ab", (0,), (0, 1, 2), (0, 3), (3, 0), (-1, 0), (0, -1), [0, 1], (True, 0), (0, False), (None, 0),
    (0, None), ("0", 1), (0, "1"), ((0, 1),), ((0, 1), (1, 2)), (0, [1]), (Stranger(), 0), (0, Stranger()),
    (10 ** 39, 0), {0: 1}, {0, 1}, b"\x00\x01", PATH,
))
WANT = ("code", InvalidWant, ODD + NUMBERS + (
    "", "a", "Code", "CODE", "codes", " code", "code ", "code\n", "hand,back", "has", "lacks", "near", "behin",
    ("code",), ["code"], {"code"}, b"code", PATH,
))
MARK = ("a", InvalidMark, ODD + NUMBERS + (
    "", " ", "m", "A", "aa", "ab", "abcdefghijkl", "a ", "?", "\n", ("a",), ["a"], PATH,
))
COUNT = (0, InvalidCount, ODD + tuple(n for n in NUMBERS if n < 0) + ("", "0", "a", (0,), [0], PATH))
HOUSE = (1, InvalidHouse, ODD + tuple(n for n in NUMBERS if n not in (0, 1, 2)) + (3, "0", "", (0,), [0], PATH))
ROUND = (3, InvalidCount, ODD + tuple(n for n in NUMBERS if not 3 <= n <= 10) + (2, 11, "3", "", (3,), [3], PATH))
TEXT = ("0 a 1 ?", InvalidText, ODD + NUMBERS + ("", "a", "0 a 1", "? a 1 a", "0 a 1 m", ["0 a 1 ?"], PATH))
LETTERS = ("ab", InvalidLetters, ODD + NUMBERS + ("", "ba", "aa", "m", "a b", "A", "?", ("a",), ["a"], PATH))

# Each function with the names of its arguments, in order, and for each a right value, its error and wrong ones.
SIGNATURES = (
    (walks, "led", (("web", WEB), ("word", WORD))),
    (walks, "joined", (("web", WEB), ("pair", PAIR), ("other", PAIR))),
    (walks, "unlike", (("web", WEB), ("word", WORD), ("other", WORD))),
    (codes, "has_code", (("web", WEB),)),
    (codes, "codes", (("web", WEB),)),
    (codes, "code_of", (("web", WEB), ("word", WORD))),
    (codes, "fewest_codes", (("web", WEB),)),
    (codes, "few_codes", (("web", WEB),)),
    (codes, "quarrel", (("web", WEB),)),
    (codes, "group", (("web", WEB),)),
    (handing, "can_hand", (("web", WEB),)),
    (handing, "hand_codes", (("web", WEB),)),
    (handing, "hand_table", (("web", WEB),)),
    (handing, "handed", (("web", WEB), ("mark", MARK), ("code", COUNT))),
    (backwards, "has_back", (("web", WEB),)),
    (backwards, "back_codes", (("web", WEB),)),
    (backwards, "can_behind", (("web", WEB),)),
    (backwards, "behind_codes", (("web", WEB),)),
    (backwards, "behind_table", (("web", WEB),)),
    (backwards, "has_want", (("web", WEB), ("want", WANT))),
    (ends, "alike_ends", (("web", WEB),)),
    (ends, "reading_back", (("web", WEB), ("word", WORD))),
    (mending, "fewest_changes", (("web", WEB), ("want", WANT))),
    (mending, "mend", (("web", WEB), ("want", WANT))),
    (mending, "harms", (("web", WEB), ("want", WANT))),
    (unread, "readings", (("text", TEXT), ("letters", LETTERS))),
    (unread, "sure", (("text", TEXT), ("letters", LETTERS), ("want", WANT))),
    (making, "ring", (("houses", ROUND),)),
    (making, "board", (("wide", ROUND), ("high", ROUND))),
    (making, "numbered", (("web", WEB),)),
    (making, "same_ties", (("web", WEB), ("other", WEB))),
    (visits, "visit", (("web", WEB), ("house", HOUSE))),
    (visits, "steps_without", (("web", WEB),)),
    (certificates, "certify", (("web", WEB), ("want", WANT))),
)
# Webs for which each function raises what is looked for last, if it does.
LAST = {"code_of": FOUR, "handed": FOUR, "reading_back": PATH, "fewest_changes": ring(7), "mend": ring(7)}


def rows():
    """Each function with the names, the right values, the errors and the wrong values of its arguments."""
    for module, name, arguments in SIGNATURES:
        names, kinds = zip(*arguments)
        yield getattr(module, name), names, *zip(*kinds)


class SignatureTest(unittest.TestCase):
    def test_names_and_order(self):
        for action, names, _, _, _ in rows():
            self.assertEqual(tuple(inspect.signature(action).parameters), names, action)

    def test_they_are_defined_in_their_file(self):
        for module, name, _ in SIGNATURES:
            self.assertEqual(getattr(module, name).__module__, module.__name__)
            self.assertIs(type(getattr(module, name)), type(rows))

    def test_by_place_and_by_name(self):
        for action, names, right, _, _ in rows():
            web = ring(3) if action is ends.reading_back else right[0]
            told = []
            for many in range(len(names) + 1):
                by_name = dict(zip(names[many:], ((web,) + right[1:])[many:]))
                told.append(action(*((web,) + right[1:])[:many], **by_name))
                told.append(action(*((web,) + right[1:])[:many], **dict(reversed(by_name.items()))))
            self.assertEqual(told, told[:1] * len(told), action)

    def test_other_arguments_are_refused(self):
        for action, names, right, _, _ in rows():
            self.assertRaises(TypeError, action, *right[:-1])
            self.assertRaises(TypeError, action, *right, 1)
            self.assertRaises(TypeError, action, *right, more=1)


class WrongTest(Case):
    def test_one_wrong_value(self):
        for action, names, right, errors, wrong in rows():
            for k, values in enumerate(wrong):
                for value in values:
                    given = right[:k] + (value,) + right[k + 1:]
                    self.raises(errors[k], value, lambda: action(*given))
                    self.raises(errors[k], value, lambda: action(**dict(zip(names, given))))

    def test_two_wrong_values_and_all(self):
        for action, names, right, errors, wrong in rows():
            for k, j in itertools.combinations(range(len(names)), 2):
                for value, other in itertools.product(wrong[k][::5], wrong[j][::4]):
                    given = list(right)
                    given[k], given[j] = value, other
                    self.raises(errors[k], value, lambda: action(*given))
                    self.raises(errors[k], value, lambda: action(**dict(zip(names[::-1], given[::-1]))))
            given = [values[0] for values in wrong]
            self.raises(errors[0], given[0], lambda: action(*given))

    def test_last_comes_behind_all_others(self):
        for action, names, right, errors, wrong in rows():
            web = LAST.get(action.__name__)
            if web is None:
                continue
            error = TooMany if web.houses == 7 else NoCode
            with self.assertRaises(error) as caught:
                action(web, *right[1:])
            self.assertIsInstance(caught.exception, NoAnswer)
            self.assertNotIsInstance(caught.exception, WrongValue)
            for k, values in list(enumerate(wrong))[1:]:
                for value in values:
                    given = (web,) + right[1:k] + (value,) + right[k + 1:]
                    self.raises(errors[k], value, lambda: action(*given))

    def test_houses_of_a_pair_count_by_the_web(self):
        for web, pair in ((ring(10), (9, 9)), (Web("0 a 1 a"), (1, 1)), (FOUR, (3, 0))):
            self.assertIsNotNone(walks.joined(web, pair, pair))
            for wrong in ((web.houses, 0), (0, web.houses)):
                self.raises(InvalidPair, wrong, lambda: walks.joined(web, pair, wrong))
                self.raises(InvalidPair, wrong, lambda: walks.joined(web, wrong, pair))

    def test_both_words_and_both_pairs(self):
        one, two = ["a"], "m"
        self.raises(InvalidWord, one, lambda: walks.unlike(PATH, one, two))
        self.raises(InvalidWord, two, lambda: walks.unlike(PATH, two, one))
        one, two = (0, 7), [0, 0]
        self.raises(InvalidPair, one, lambda: walks.joined(PATH, one, two))
        self.raises(InvalidPair, two, lambda: walks.joined(PATH, two, one))

    def test_values_that_this_package_returned(self):
        big = all_tied(10)
        for value in (codes.codes(big), handing.hand_table(big), codes.quarrel(FOUR), mending.harms(big, "code"),
                      codes.group(big), walks.led(PATH, "a"), list(codes.codes(big)), NotAWeb(3)):
            self.raises(NotAWeb, value, lambda: codes.codes(value))
            self.raises(InvalidWord, value, lambda: walks.led(PATH, value))
            self.raises(InvalidPair, value, lambda: walks.joined(PATH, (0, 1), value))
            self.raises(InvalidWant, value, lambda: mending.mend(PATH, value))
            self.raises(InvalidText, value, lambda: unread.readings(value, "a"))
            self.raises(InvalidLetters, value, lambda: unread.readings("0 a 1 a", value))


class GivenTest(unittest.TestCase):
    def test_webs_stay_as_they_are(self):
        for web in (PATH, TURNING, FOUR, star(3, "a"), ring(5)):
            before = (web.text, web.plain, web.houses, web.marks, web.ties)
            for action, names, right, _, _ in rows():
                if names[0] == "web":
                    for _ in range(2):
                        try:
                            action(web, *right[1:])
                        except NoAnswer:
                            pass
            self.assertEqual((web.text, web.plain, web.houses, web.marks, web.ties), before)

    def test_equal_calls_tell_equal_things(self):
        for action, names, right, _, _ in rows():
            if action is not ends.reading_back:
                self.assertEqual(action(*right), action(*right))
            if names[0] == "web" and action is not ends.reading_back:
                self.assertEqual(action(*right), action(Web("0 a 1 a\n1 b 2 a"), *right[1:]))


if __name__ == "__main__":
    unittest.main()
