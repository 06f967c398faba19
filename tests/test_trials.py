"""Trials of seekers and of books, which leave them as they were (whichhouse.trials)."""

import ast
import pathlib
import unittest

from tests.counting import FOUR, PATH
from whichhouse.books import Book
from whichhouse.errors import InvalidDeeds, InvalidWord, NothingToUndo
from whichhouse.seekers import Seeker

PACKAGE = pathlib.Path(__file__).resolve().parent.parent / "whichhouse"
DEEPEST = 5


class Odd(Exception):
    """An error that is not of this package."""


class Trials:
    """What holds for seekers and for books. Cases tell how one is made, told of, changed, and made to fail."""

    def setUp(self):
        self.holder = self.made()
        self.before = self.history(self.holder)

    def tearDown(self):
        self.assertEqual(self.history(self.holder), self.before)

    def history(self, holder):
        """What is told of it now, and behind each undo until nothing can be taken back; it stays as it is."""
        told = [self.told(holder)]
        done = holder.tried(lambda inner: [(inner.undo(), self.told(inner)) for _ in range(inner.changes)])
        return told + [state for _, state in done]

    def within(self, trials, ending):
        """Goes into one trial behind the other, with a change in each, up to an ending; checks each as it is left."""
        if not trials:
            ending()
            return
        begun = self.history(self.holder)
        try:
            with trials[0] as inner:
                self.assertIs(inner, self.holder)
                self.change(inner, len(trials))
                self.assertNotEqual(self.history(inner), begun)
                self.within(trials[1:], ending)
        finally:
            self.assertEqual(self.history(self.holder), begun)

    def nested(self, ending):
        for deep in range(1, DEEPEST + 1):
            self.within([self.holder.trial() for _ in range(deep)], ending)
            self.within([self.holder.trial()] * deep, ending)
            trial, other = self.holder.trial(), self.holder.trial()
            self.within([trial, other] * deep, ending)

    def raising(self, error):
        def action():
            raise error
        return action

    def test_one_within_another_and_the_same_within_itself(self):
        self.nested(lambda: None)
        self.nested(lambda: self.change(self.holder, 0))
        self.nested(self.holder.undo)

    def test_all_rows_end_by_an_error(self):
        for error in (Odd(), KeyError("a"), StopIteration(), KeyboardInterrupt(), SystemExit(1), GeneratorExit()):
            for deep in range(1, DEEPEST + 1):
                for trials in ([self.holder.trial() for _ in range(deep)], [self.holder.trial()] * deep):
                    with self.assertRaises(type(error)) as caught:
                        self.within(trials, self.raising(error))
                    self.assertIs(caught.exception, error)
                    self.assertEqual(self.history(self.holder), self.before)

    def test_inner_rows_end_by_an_error_that_outer_rows_catch(self):
        for same in (True, False):
            trial = self.holder.trial()
            with trial as outer:
                self.change(outer, 1)
                middle = self.history(outer)
                for error in (Odd(), NothingToUndo()):
                    with self.assertRaises(type(error)):
                        with trial if same else outer.trial() as inner:
                            self.change(inner, 2)
                            raise error
                    self.assertEqual(self.history(outer), middle)
            self.assertEqual(self.history(self.holder), self.before)

    def test_rows_end_by_an_error_of_the_package(self):
        trial = self.holder.trial()
        for trials in ([trial], [trial, trial], [trial, self.holder.trial()]):
            with self.assertRaises(self.error):
                self.within(trials, lambda: self.fail_within(self.holder))
            with self.assertRaises(NothingToUndo):
                self.within(trials, lambda: [self.holder.undo() for _ in range(20)])
            self.assertEqual(self.history(self.holder), self.before)

    def test_an_ended_trial_may_be_taken_again(self):
        trial = self.holder.trial()
        with self.assertRaises(Odd):
            self.within([trial, trial], self.raising(Odd()))
        with self.holder.trial() as outer:
            outer.undo()
            begun = self.history(outer)
            self.within([trial, trial, trial], outer.undo)
            self.assertEqual(self.history(outer), begun)

    def test_rows_that_do_not_end_in_the_order_in_which_they_began(self):
        def rows():
            with self.holder.trial() as inner:
                yield self.change(inner, 1)
        first, second = rows(), rows()
        next(first)
        between = self.history(self.holder)
        next(second)
        first.close()
        self.assertEqual(self.history(self.holder), self.before)
        second.close()
        self.assertEqual(self.history(self.holder), between)
        self.holder.undo()


class SeekerTest(Trials, unittest.TestCase):
    error = InvalidWord

    def made(self):
        seeker = Seeker(FOUR)
        seeker.walk("a")
        seeker.walk("a")
        return seeker

    def told(self, seeker):
        return (seeker.now, seeker.began, seeker.changes)

    def change(self, seeker, number):
        if number % 2:
            seeker.walk("a")
        else:
            seeker.see("a" if 0 in seeker.now else "ab")

    def fail_within(self, seeker):
        seeker.undo()
        seeker.walk("")


class BookTest(Trials, unittest.TestCase):
    error = InvalidDeeds

    def made(self):
        book = Book()
        book["p"] = PATH
        book.claim(("has", "p", "code"))
        return book

    def told(self, book):
        return ([(name, book[name].plain) for name in book.names], book.claims, len(book), book.changes)

    def change(self, book, number):
        if number % 2:
            book["q"] = FOUR
        else:
            book.claim(("lacks", "p", "back"))

    def fail_within(self, book):
        book.lift(0)
        book.do_all(("drop", "p"), ("drop",))


class FormTest(unittest.TestCase):
    """The rows of `__exit__` give values of objects other such values, and call nothing."""

    def test_rows_of_exit(self):
        bodies = [
            node.body for path in sorted(PACKAGE.glob("*.py")) for node in ast.walk(ast.parse(path.read_text()))
            if isinstance(node, ast.FunctionDef) and node.name == "__exit__"
        ]
        self.assertTrue(bodies)
        for body in bodies:
            kept = [row for row in body if isinstance(row, ast.Assign) and isinstance(row.targets[0], ast.Name)]
            self.assertLessEqual(len(kept), 1)
            for row in body:
                with self.subTest(ast.unparse(row)):
                    self.assertIsInstance(row, ast.Assign)
                    self.assertEqual(len(row.targets), 1)
                    self.assertIsInstance(row.value, ast.Attribute)
                    if row in kept:
                        self.assertEqual(ast.unparse(row.value.value), "self")
                    else:
                        self.assertIsInstance(row.targets[0], ast.Attribute)


if __name__ == "__main__":
    unittest.main()
