"""Seekers, who learn where they stand (the interface of whichhouse.seekers)."""

import inspect
import random
import unittest

from tests.cases import Case
from tests.counting import FOUR, LETTERS, PATH, TURNING, all_tied, houses_of, large_webs, ring, small_webs, star
from tests.counting import steps_of
from tests.values import NUMBERS, ODD, Stranger
from whichhouse.errors import InvalidLetters, InvalidWord, NotAWeb, NothingToUndo, Nowhere, WrongValue
from whichhouse.seekers import Seeker
from whichhouse.webs import Web

WORDS = ODD + NUMBERS + ("", " ", "m", "A", "a b", "a\n", "a" * 201, "a" * 199 + "m", ("a",), ["a"], PATH)
SIGHTS = ODD + NUMBERS + ("", " ", "ba", "aa", "abb", "abm", "A", "a b", "a\n", LETTERS + "l", ("a",), ["a"], PATH)


def state(seeker):
    return (seeker.now, seeker.began, seeker.changes)


class Model:
    """What may be known of a seeker: for each house where he may have begun the one where he stands then."""

    def __init__(self, web):
        self.steps = steps_of(web)
        self.behind = [{house: house for house in range(houses_of(web))}]

    def state(self):
        now = self.behind[-1]
        return (tuple(sorted(set(now.values()))), tuple(sorted(now)), len(self.behind) - 1)

    def walked(self, word):
        return self.kept({began: self.end(house, word) for began, house in self.behind[-1].items()})

    def seen(self, marks):
        def just(house):
            return sorted(m for x, m in self.steps if x == house) == list(marks)
        return self.kept({began: house if just(house) else None for began, house in self.behind[-1].items()})

    def end(self, house, word):
        for mark in word:
            house = self.steps.get((house, mark))
        return house

    def kept(self, ends):
        """Whether some house is possible; if so, the step is kept."""
        left = {began: house for began, house in ends.items() if house is not None}
        if left:
            self.behind.append(left)
        return bool(left)


class ExampleTest(Case):
    def test_the_examples_of_the_document(self):
        seeker = Seeker(PATH)
        told = [
            seeker.walk("a"), seeker.now, seeker.see("ab"), seeker.now, seeker.began, seeker.walk("b"), seeker.now,
            seeker.changes, seeker.undo(), seeker.now,
        ]
        self.assertEqual(told, [None, (0, 1), None, (1,), (0, 2), None, (2,), 3, None, (1,)])
        with self.assertRaises(Nowhere):
            seeker.walk("bb")


class StepTest(Case):
    def test_at_first_anywhere(self):
        for web in (Web("0 a 1 a"), PATH, ring(10), star(9, "ab")):
            houses = tuple(range(web.houses))
            self.assertEqual(state(Seeker(web)), (houses, houses, 0))
            self.assertEqual(state(Seeker(web=web)), (houses, houses, 0))

    def test_drawn_steps_against_walks_from_all_houses(self):
        source = random.Random(3)
        refused = {"walk": 0, "see": 0}
        for web in small_webs()[::4] + large_webs() + [TURNING, FOUR]:
            seeker, model = Seeker(web), Model(web)
            for _ in range(30):
                deed = source.choice(("walk", "walk", "see", "undo"))
                with self.subTest(web.plain, deed=deed):
                    self.take(source, seeker, model, deed, web, refused)
                    self.assertEqual(state(seeker), model.state())
            self.undo_all(seeker, model)
        self.assertGreater(min(refused.values()), 50)

    def take(self, source, seeker, model, deed, web, refused):
        """The same step for a seeker and the model, with what is due from it."""
        if deed == "undo":
            if len(model.behind) > 1:
                model.behind.pop()
                self.assertIsNone(seeker.undo())
            else:
                self.assertRaises(NothingToUndo, seeker.undo)
            return
        if deed == "walk":
            given = "".join(source.choices(web.marks, k=source.choice((1, 1, 2, 3))))
            possible = model.walked(given)
        else:
            given = web.at(source.choice(seeker.now)) if source.random() < .7 else web.at(source.randrange(web.houses))
            possible = model.seen(given)
        if possible:
            self.assertIsNone(getattr(seeker, deed)(given))
        else:
            refused[deed] += 1
            self.assertRaises(Nowhere, getattr(seeker, deed), given)

    def undo_all(self, seeker, model):
        while len(model.behind) > 1:
            model.behind.pop()
            self.assertIsNone(seeker.undo())
            self.assertEqual(state(seeker), model.state())
        for _ in range(2):
            with self.assertRaises(NothingToUndo):
                seeker.undo()
            self.assertEqual(state(seeker), model.state())

    def test_steps_that_tell_nothing_count(self):
        seeker = Seeker(ring(4))
        for many in range(1, 6):
            self.assertIsNone(seeker.see("ab") if many % 2 else seeker.walk("ab"))
            self.assertEqual(state(seeker), ((0, 1, 2, 3), (0, 1, 2, 3), many))

    def test_just_these_marks(self):
        seeker = Seeker(PATH)
        for marks in ("b", "abc", "c", "bc", LETTERS):
            with self.assertRaises(Nowhere):
                seeker.see(marks)
            self.assertEqual(state(seeker), ((0, 1, 2), (0, 1, 2), 0))
        seeker.see("a")
        self.assertEqual(state(seeker), ((0, 2), (0, 2), 1))

    def test_two_beginnings_come_to_one_house(self):
        seeker = Seeker(star(3, "a"))
        with self.assertRaises(Nowhere):
            seeker.walk("ad")
        seeker.see("a")
        seeker.walk("a")
        self.assertEqual(state(seeker), ((0,), (1, 2, 3), 2))
        seeker.walk("b")
        self.assertEqual(state(seeker), ((2,), (1, 2, 3), 3))

    def test_houses_come_in_another_order(self):
        seeker = Seeker(TURNING)
        seeker.walk("a")
        self.assertEqual(state(seeker), ((0, 1, 2), (0, 1, 2), 1))
        seeker = Seeker(Web("0 a 2 b\n1 a 2 a"))
        seeker.see("a")
        seeker.walk("aa")
        self.assertEqual(state(seeker), ((1,), (0, 1), 2))

    def test_words_of_200_marks(self):
        seeker = Seeker(PATH)
        seeker.walk("ab" * 100)
        self.assertEqual(state(seeker), ((2,), (0, 2), 1))
        with self.assertRaises(Nowhere):
            seeker.walk("b" * 200)
        self.assertEqual(state(seeker), ((2,), (0, 2), 1))

    def test_kinds_of_values(self):
        seeker = Seeker(all_tied(10))
        seeker.walk("a")
        self.assertEqual([type(value) for value in state(seeker)], [tuple, tuple, int])

    def test_the_web_stays_and_seekers_do_not_know_of_one_another(self):
        web = Web(PATH.text)
        seeker, other = Seeker(web), Seeker(web)
        seeker.see("ab")
        self.assertEqual(state(other), ((0, 1, 2), (0, 1, 2), 0))
        self.assertEqual([web.text, web.ties], [PATH.text, PATH.ties])

    def test_equal_steps_tell_equal_things(self):
        for web in large_webs()[::4]:
            told = []
            for _ in range(2):
                seeker = Seeker(web)
                seeker.walk(web.at(0)[0])
                told.append((state(seeker), state(seeker)))
            self.assertEqual(told[0], told[1])
            self.assertEqual(told[0][0], told[0][1])

    def test_many_steps(self):
        seeker = Seeker(Web("0 a 1 a"))
        for _ in range(20000):
            seeker.walk("a")
        self.assertEqual(seeker.changes, 20000)
        for _ in range(20000):
            seeker.undo()
        self.assertEqual(state(seeker), ((0, 1), (0, 1), 0))


class WrongTest(Case):
    def test_what_is_no_web(self):
        for value in ODD + NUMBERS + ("", PATH.text, [PATH], (PATH,), Web, Seeker(PATH)):
            self.raises(NotAWeb, value, lambda: Seeker(value))
            self.raises(NotAWeb, value, lambda: Seeker(web=value))

    def test_what_is_no_word_or_no_letters(self):
        seeker = Seeker(FOUR)
        seeker.walk("a")
        before = state(seeker)
        for value in WORDS:
            self.raises(InvalidWord, value, lambda: seeker.walk(value))
            self.raises(InvalidWord, value, lambda: seeker.walk(word=value))
            self.assertEqual(state(seeker), before)
        for value in SIGHTS:
            self.raises(InvalidLetters, value, lambda: seeker.see(value))
            self.raises(InvalidLetters, value, lambda: seeker.see(marks=value))
            self.assertEqual(state(seeker), before)
        seeker.undo()
        self.assertEqual(state(seeker), ((0, 1, 2, 3), (0, 1, 2, 3), 0))

    def test_nowhere_is_looked_for_last(self):
        seeker = Seeker(Web("0 a 1 a"))
        self.raises(InvalidWord, "bm", lambda: seeker.walk("bm"))
        self.raises(InvalidLetters, "cb", lambda: seeker.see("cb"))
        for action, value in ((seeker.walk, "b"), (seeker.walk, "a" * 199 + "b"), (seeker.see, "b")):
            with self.assertRaises(Nowhere) as caught:
                action(value)
            self.assertNotIsInstance(caught.exception, WrongValue)

    def test_names_of_arguments(self):
        seeker = Seeker(PATH)
        self.assertIsNone(seeker.walk(word="a"))
        self.assertIsNone(seeker.see(marks="ab"))
        self.assertEqual(seeker.tried(action=lambda one: one.now), (1,))
        for name, wanted in (("walk", ["word"]), ("see", ["marks"]), ("undo", []), ("trial", []),
                             ("tried", ["action"])):
            self.assertEqual(list(inspect.signature(getattr(seeker, name)).parameters), wanted)
            self.assertIn(name, vars(Seeker))
        for name in ("now", "began", "changes"):
            self.assertIsInstance(vars(Seeker)[name], property)
            self.assertRaises(AttributeError, setattr, seeker, name, 1)
        self.assertEqual(list(inspect.signature(Seeker).parameters), ["web"])
        self.assertEqual(Seeker.__module__, "whichhouse.seekers")


class EqualTest(Case):
    def test_equal_only_if_one_object(self):
        seeker, other = Seeker(PATH), Seeker(PATH)
        self.assertTrue(seeker == seeker)
        self.assertFalse(seeker != seeker)
        self.assertFalse(seeker == other)
        self.assertTrue(seeker != other)

    def test_never_equal_to_other_values(self):
        seeker = Seeker(PATH)
        for value in ODD + NUMBERS + ("", PATH, Stranger(), Seeker):
            self.assertIs(seeker == value, False)
            self.assertIs(seeker != value, True)

    def test_they_are_true(self):
        seeker = Seeker(Web("0 a 1 a"))
        self.assertTrue(seeker)
        seeker.see("a")
        self.assertTrue(seeker)
        self.assertTrue(seeker.trial())


class Odd(Exception):
    """An error that is not of this package."""


class TrialTest(Case):
    def setUp(self):
        self.seeker = Seeker(FOUR)
        self.seeker.walk("a")
        self.seeker.walk("a")
        self.before = state(self.seeker)

    def tearDown(self):
        """Behind each test all is as before, with all that can be taken back."""
        self.assertEqual(state(self.seeker), self.before)
        self.seeker.undo()
        self.assertEqual(self.seeker.changes, 1)
        self.assertEqual(self.seeker.now, (0, 1, 2))
        self.seeker.undo()
        self.assertEqual(state(self.seeker), ((0, 1, 2, 3), (0, 1, 2, 3), 0))
        self.assertRaises(NothingToUndo, self.seeker.undo)

    def test_as_gives_the_seeker(self):
        with self.seeker.trial() as inner:
            self.assertIs(inner, self.seeker)
            self.assertEqual(state(inner), self.before)

    def test_steps_within(self):
        with self.seeker.trial() as inner:
            inner.walk("a")
            self.seeker.see("ab")
            self.assertEqual(self.seeker.changes, 4)
            self.assertEqual(inner.changes, 4)

    def test_undone_within(self):
        for many in (1, 2):
            with self.seeker.trial() as inner:
                for _ in range(many):
                    inner.undo()
                self.assertEqual(self.seeker.changes, 2 - many)
            self.assertEqual(state(self.seeker), self.before)

    def test_undone_and_other_steps_within(self):
        with self.seeker.trial() as inner:
            inner.undo()
            self.seeker.undo()
            inner.see("a")
            inner.walk("a")
            self.assertEqual(state(inner), ((1, 2), (0, 3), 2))

    def test_an_error_of_the_package(self):
        for action, error in ((lambda: self.seeker.walk("l"), Nowhere), (lambda: self.seeker.walk(""), InvalidWord)):
            with self.assertRaises(error):
                with self.seeker.trial() as inner:
                    inner.undo()
                    action()
            self.assertEqual(state(self.seeker), self.before)

    def test_errors_of_all_kinds_are_passed_on(self):
        for error in (Odd("a"), ZeroDivisionError(), KeyError("a"), StopIteration(), KeyboardInterrupt(), SystemExit(1),
                      GeneratorExit(), AssertionError()):
            with self.assertRaises(type(error)) as caught:
                with self.seeker.trial() as inner:
                    inner.walk("a")
                    raise error
            self.assertIs(caught.exception, error)
            self.assertEqual(state(self.seeker), self.before)
            with self.assertRaises(type(error)) as caught:
                self.seeker.tried(self.raising(error))
            self.assertIs(caught.exception, error)
            self.assertEqual(state(self.seeker), self.before)

    def raising(self, error):
        def action(inner):
            inner.undo()
            raise error
        return action

    def test_nothing_to_undo_within(self):
        with self.assertRaises(NothingToUndo):
            with self.seeker.trial() as inner:
                for _ in range(3):
                    inner.undo()

    def test_return_break_and_continue(self):
        def returning():
            with self.seeker.trial() as inner:
                inner.walk("a")
                return inner.now
        self.assertEqual(returning(), (0, 1))
        self.assertEqual(state(self.seeker), self.before)
        for _ in range(3):
            with self.seeker.trial() as inner:
                inner.walk("a")
                continue
        self.assertEqual(state(self.seeker), self.before)
        for _ in range(3):
            with self.seeker.trial() as inner:
                inner.undo()
                break

    def test_trials_within_trials(self):
        with self.seeker.trial() as outer:
            outer.walk("a")
            middle = state(outer)
            with outer.trial() as inner:
                inner.undo()
                inner.undo()
                inner.undo()
                with self.assertRaises(Odd):
                    with self.seeker.trial():
                        self.seeker.see("a")
                        raise Odd("a")
                self.assertEqual(state(inner), ((0, 1, 2, 3), (0, 1, 2, 3), 0))
            self.assertEqual(state(outer), middle)

    def test_the_same_trial_within_itself(self):
        trial = self.seeker.trial()
        with trial as outer:
            outer.walk("a")
            first = state(outer)
            with trial as middle:
                self.assertIs(middle, self.seeker)
                middle.undo()
                middle.undo()
                second = state(middle)
                with trial as inner:
                    inner.undo()
                    self.assertEqual(inner.changes, 0)
                self.assertEqual(state(middle), second)
            self.assertEqual(state(outer), first)

    def test_the_same_trial_again(self):
        trial = self.seeker.trial()
        with trial as inner:
            inner.walk("a")
        self.seeker.undo()
        between = state(self.seeker)
        with self.assertRaises(Odd):
            with trial as inner:
                inner.undo()
                raise Odd("a")
        self.assertEqual(state(self.seeker), between)
        self.seeker.walk("a")
        with trial as inner:
            inner.undo()

    def test_a_trial_that_is_not_entered_changes_nothing(self):
        trial = self.seeker.trial()
        self.assertEqual(state(self.seeker), self.before)
        self.seeker.walk("a")
        self.seeker.undo()
        self.assertIsNotNone(trial)

    def test_tried_returns_what_the_function_returns(self):
        def action(inner):
            self.assertIs(inner, self.seeker)
            inner.walk("a")
            inner.undo()
            inner.undo()
            return [inner.changes, inner.now]
        self.assertEqual(self.seeker.tried(action), [1, (0, 1, 2)])
        self.assertIsNone(self.seeker.tried(lambda inner: inner.undo()))
        self.assertIs(self.seeker.tried(lambda inner: inner), self.seeker)
        value = object()
        self.assertIs(self.seeker.tried(lambda inner: value), value)

    def test_tried_within_tried(self):
        def inner_action(inner):
            inner.undo()
            return inner.changes

        def action(inner):
            inner.walk("a")
            told = inner.tried(inner_action)
            return (told, inner.changes)
        self.assertEqual(self.seeker.tried(action), (2, 3))

    def test_steps_by_the_seeker_outside(self):
        self.assertEqual(self.seeker.tried(lambda _: (self.seeker.walk("a"), self.seeker.changes)), (None, 3))

    def test_seekers_have_trials_of_their_own(self):
        other = Seeker(PATH)
        with self.seeker.trial() as inner:
            other.walk("a")
            with other.trial():
                other.walk("a")
                inner.walk("a")
            self.assertEqual([other.changes, inner.changes], [1, 3])
        self.assertEqual(other.changes, 1)


if __name__ == "__main__":
    unittest.main()
