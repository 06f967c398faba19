"""Books: webs under names, and claims that hold after each change (point 14)."""

import inspect
import itertools
import random
import unittest

from tests.cases import Case
from tests.counting import EACH_WAY, FOUR, LETTERS, PATH, TURNING, WANTS, all_tied, linked_classes, parts_ends, ring
from tests.counting import star, turned_round, wanted
from tests.test_mending import SEVEN, SIX, TRYING
from tests.test_sharing import fewest
from tests.values import NUMBERS, ODD, Stranger
from whichhouse.books import Book
from whichhouse.errors import Broken, InUse, InvalidClaim, InvalidDeeds, InvalidIndex, InvalidName, NotAWeb
from whichhouse.errors import NothingToUndo, UnknownName
from whichhouse.mending import fewest_changes
from whichhouse.webs import Web

PAIR = Web("0 a 1 a")
# The fewest values for its code are more than there are houses.
WIDE = Web("0 c 1 c\n0 b 2 b\n1 a 2 a")
POOL = (PATH, TURNING, FOUR, PAIR, WIDE, star(3, "a"), SEVEN, ring(8)) + tuple(
    web for _, web in EACH_WAY if len(web.ties) <= 3)

NAMES = ODD + NUMBERS + (
    "", " ", "P", "p ", " p", "p q", "p1", "1", "p\n", "abcdefghi", "a" * 100, "a_b", "`", "{", ("p",), ["p"], PATH,
)
WEBS = ODD + NUMBERS + ("", "p", PATH.text, PATH.ties, [PATH], (PATH,), Web)
CLAIMS = ODD + NUMBERS + (
    "", "has", ("has",), ("has", "p"), ("has", "p", "codes"), ("has", "p", ""), ("has", "p", None),
    ("has", "p", ["code"]),
    ("has", "p", "code", 1), ["has", "p", "code"], ("Has", "p", "code"), ("had", "p", "code"), ("lack", "p", "code"),
    ("lacks", "p"), ("lacks", "p", "near"), ("lacks", "p", "code", 0), (b"has", "p", "code"), ("", "p", "code"),
    (None, "p", "code"), (True, "p", "code"), (["has"], "p", "code"), (Stranger(), "p", "code"), ("p", "has", "code"),
    ("codes", "p"), ("codes", "p", 0), ("codes", "p", 101), ("codes", "p", -1), ("codes", "p", True),
    ("codes", "p", False), ("codes", "p", "3"), ("codes", "p", None), ("codes", "p", 10 ** 39), ("codes", "p", (3,)),
    ("codes", "p", 3, 3), ("codes", "p", Stranger()), ("code", "p", 3), ("near", "p", "code"), ("near", "p", 1),
    ("nears", "p", "code", 1), ("codes", "p", "code", 1), ("lack", "p", "code", 1), ("code", "p", "code"),
    ("near", "p", "code", 3), ("near", "p", "code", -1), ("near", "p", "code", True), ("near", "p", "code", False),
    ("near", "p", "code", "1"), ("near", "p", "code", None), ("near", "p", "codes", 1), ("near", "p", 1, "code"),
    ("near", "p", "code", 1, 1), ("near", "p", Stranger(), 1), ("near", "p", "code", Stranger()),
    (("has", "p", "code"),),
    ("has", "p", "code", None), ("has", "code"), ("has", PATH, "p"),
)


def state(book):
    return ([(name, book[name]) for name in book.names], book.claims, book.changes, len(book))


class Model:
    """What a book has, by the tests' own counting: webs, claims, and what there was behind each change."""

    known = {}

    def __init__(self):
        self.past = [({}, ())]

    @property
    def webs(self):
        return self.past[-1][0]

    @property
    def claims(self):
        return self.past[-1][1]

    def state(self):
        return (sorted(self.webs.items()), self.claims, len(self.past) - 1, len(self.webs))

    @classmethod
    def fact(cls, ask, web, *told):
        key = (ask, web.plain) + told
        if key not in cls.known:
            cls.known[key] = getattr(cls, ask)(web, *told)
        return cls.known[key]

    @staticmethod
    def has(web, want):
        return wanted(web, want)

    @staticmethod
    def codes(web):
        sets = linked_classes(web)
        return fewest(sets) if parts_ends(sets) else 999

    @staticmethod
    def near(web, want):
        many = TRYING.fewest(web, want) if len(web.ties) <= 6 else None
        return 999 if many is None else many

    def holds(self, claim, webs):
        word, name, *rest = claim
        if word in ("has", "lacks"):
            return self.fact("has", webs[name], *rest) == (word == "has")
        return self.fact(word, webs[name], *rest[:-1]) <= rest[-1]

    def kept(self, webs, claims):
        """The error that is due, or None, and then the change is kept."""
        for index, claim in enumerate(claims):
            if not self.holds(claim, webs):
                return Broken, "index", index
        self.past.append((webs, claims))
        return None

    def set(self, name, web):
        if name not in ("p", "q", "abcdefgh", "zz"):
            return InvalidName, "given", name
        if not isinstance(web, Web):
            return NotAWeb, "given", web
        return self.kept({**self.webs, name: web}, self.claims)

    def drop(self, name):
        if name not in self.webs:
            return UnknownName, "given", name
        for index, claim in enumerate(self.claims):
            if claim[1] == name:
                return InUse, "index", index
        return self.kept({other: web for other, web in self.webs.items() if other != name}, self.claims)

    def claim(self, claim):
        if claim in (("codes", "p", 0), ("near", "q", "code", 3), "has"):
            return InvalidClaim, "given", claim
        if claim[1] not in self.webs:
            return UnknownName, "given", claim[1]
        return self.kept(self.webs, self.claims + (claim,))

    def lift(self, index):
        if index not in range(len(self.claims)):
            return InvalidIndex, "given", index
        return self.kept(self.webs, tuple(claim for k, claim in enumerate(self.claims) if k != index))

    def undo(self):
        if len(self.past) == 1:
            return NothingToUndo, None, None
        self.past.pop()
        return None

    def take(self, deed):
        return getattr(self, deed[0])(*deed[1:])


def drawn_claim(source):
    name = source.choice(("p", "p", "q", "abcdefgh", "zz", "none"))
    return source.choice((
        ("has", name, source.choice(WANTS)), ("lacks", name, source.choice(WANTS)),
        ("codes", name, source.choice((1, 2, 3, 4, 5, 100))),
        ("near", name, source.choice(WANTS), source.choice((0, 1, 2))),
        source.choice((("codes", "p", 0), ("near", "q", "code", 3), "has")),
    ))


def drawn_deed(source):
    word = source.choice(("set", "set", "claim", "claim", "claim", "drop", "lift"))
    if word == "set":
        name = source.choice(("p", "p", "q", "q", "abcdefgh", "zz", "none at all", ""))
        return ("set", name, source.choice(POOL + POOL + ("p", None)))
    if word == "claim":
        return ("claim", drawn_claim(source))
    if word == "drop":
        return ("drop", source.choice(("p", "q", "abcdefgh", "zz", "none", "")))
    return ("lift", source.choice((-1, 0, 0, 1, 2, 7)))


def do(book, deed):
    """A deed done by the method for it."""
    if deed[0] == "set":
        book[deed[1]] = deed[2]
        return None
    return getattr(book, deed[0])(*deed[1:])


class BookCase(Case):
    def due(self, error, action):
        """Whether an action raises what is due: the class, and the name and the value of its attribute."""
        with self.assertRaises(error[0]) as caught:
            action()
        self.assertIs(type(caught.exception), error[0])
        if error[1] is not None:
            self.assertEqual(getattr(caught.exception, error[1]), error[2])

    def broken(self, index, action):
        self.due((Broken, "index", index), action)


class ExampleTest(BookCase):
    def test_the_examples_of_the_document(self):
        book = Book()
        done = book.do_all(
            ("set", "p", PATH), ("claim", ("has", "p", "hand")), ("claim", ("codes", "p", 3)),
            ("claim", ("lacks", "p", "back")),
        )
        told = [done, book.names, len(book.claims), book.changes, book.undo(), len(book.claims)]
        self.assertEqual(told, [4, ("p",), 3, 4, None, 2])
        self.broken(0, lambda: book.do_all(("set", "p", FOUR)))


class DrawnTest(BookCase):
    def test_drawn_deeds_against_a_model(self):
        source = random.Random(17)
        seen = {}
        for _ in range(200):
            book, model = Book(), Model()
            for _ in range(40):
                deed = drawn_deed(source) if source.random() < .85 else ("undo",)
                error = model.take(deed)
                seen[deed[0], error and error[0]] = seen.get((deed[0], error and error[0]), 0) + 1
                with self.subTest(deed=deed):
                    if error is None:
                        self.assertIsNone(do(book, deed))
                    else:
                        self.due(error, lambda: do(book, deed))
                    self.assertEqual(state(book), model.state())
            self.undo_all(book, model)
        for deed, errors in (
                ("set", (None, InvalidName, NotAWeb, Broken)), ("drop", (None, UnknownName, InUse)),
                ("claim", (None, InvalidClaim, UnknownName, Broken)), ("lift", (None, InvalidIndex)),
                ("undo", (None, NothingToUndo))):
            self.assertGreater(min(seen[deed, error] for error in errors), 5, deed)

    def undo_all(self, book, model):
        while model.undo() is None:
            self.assertIsNone(book.undo())
            self.assertEqual(state(book), model.state())
        self.assertRaises(NothingToUndo, book.undo)
        self.assertEqual(state(book), ([], (), 0, 0))

    def test_drawn_rows_of_deeds(self):
        source = random.Random(19)
        seen = {True: 0, False: 0}
        for _ in range(60):
            book, model = Book(), Model()
            book["p"] = PATH
            model.take(("set", "p", PATH))
            for _ in range(12):
                self.check_row(book, model, [drawn_deed(source) for _ in range(source.choice((0, 1, 2, 3)))], seen)
        self.assertGreater(min(seen.values()), 100)

    def check_row(self, book, model, deeds, seen):
        """All deeds or none, and what is seen behind each one."""
        past, behind, error = list(model.past), [], None
        for deed in deeds:
            error = model.take(deed)
            if error is not None:
                break
            behind.append(model.state())
        told = []

        def watch(given):
            self.assertIs(given, book)
            told.append(state(given))
        seen[error is None] += 1
        with self.subTest(deeds=deeds):
            if error is None:
                self.assertEqual(book.do_all(*deeds, watch=watch), len(deeds))
            else:
                model.past = past
                self.due(error, lambda: book.do_all(*deeds, watch=watch))
            self.assertEqual(told, behind)
            self.assertEqual(state(book), model.state())


class WebsTest(BookCase):
    def test_at_first_nothing(self):
        book = Book()
        self.assertEqual(state(book), ([], (), 0, 0))
        self.assertEqual([book.names, book.claims], [(), ()])
        self.assertRaises(NothingToUndo, book.undo)

    def test_the_web_itself_is_kept(self):
        book, web = Book(), Web("2 a 1 b\n0 a 1 a")
        book["path"] = web
        self.assertIs(book["path"], web)
        self.assertEqual(web.text, "2 a 1 b\n0 a 1 a")
        other = turned_round(web)
        book["path"] = other
        self.assertIs(book["path"], other)
        book.undo()
        self.assertIs(book["path"], web)

    def test_names_ascend(self):
        book = Book()
        for name in ("pq", "b", "abcdefgh", "p", "ba", "z", "a"):
            book[name] = PATH
        self.assertEqual(book.names, ("a", "abcdefgh", "b", "ba", "p", "pq", "z"))
        self.assertEqual([len(book), book.changes], [7, 7])

    def test_putting_in_the_place_of_another_counts(self):
        book = Book()
        for many in range(1, 4):
            book["p"] = PATH
            self.assertEqual([book.changes, len(book)], [many, 1])
        book["p"] = TURNING
        self.assertEqual(book["p"], TURNING)
        for many in (3, 2, 1):
            book.undo()
            self.assertEqual([book.changes, book["p"]], [many, PATH])
        book.undo()
        self.assertEqual(state(book), ([], (), 0, 0))

    def test_dropping(self):
        book = Book()
        book["p"], book["q"] = PATH, FOUR
        self.assertIsNone(book.drop("p"))
        self.assertEqual([book.names, book.changes], [("q",), 3])
        self.raises(UnknownName, "p", lambda: book["p"])
        self.raises(UnknownName, "p", lambda: book.drop("p"))
        book.undo()
        self.assertEqual([book.names, book["p"]], [("p", "q"), PATH])

    def test_in_use(self):
        book = Book()
        book["p"], book["q"] = PATH, PATH
        for claim in (("has", "q", "code"), ("codes", "q", 3), ("has", "p", "code"), ("has", "p", "code")):
            book.claim(claim)
        for index in (2, 2, 2):
            self.due((InUse, "index", index), lambda: book.drop("p"))
        self.due((InUse, "index", 0), lambda: book.drop("q"))
        book.lift(2)
        self.due((InUse, "index", 2), lambda: book.drop(name="p"))
        book.lift(2)
        self.assertIsNone(book.drop(name="p"))
        self.assertEqual(book.names, ("q",))

    def test_members_length_and_truth(self):
        book = Book()
        self.assertFalse(book)
        self.assertIs("p" in book, False)
        book["p"] = PATH
        self.assertTrue(book)
        self.assertIs("p" in book, True)
        self.assertIs("p" not in book, False)
        for value in ODD + NUMBERS + ("", "P", "q", "pp", ("p",), ["p"], PATH, Stranger(), book):
            self.assertIs(value in book, False)
        book.drop("p")
        self.assertFalse(book)
        self.assertEqual(len(book), 0)

    def test_books_do_not_know_of_one_another(self):
        book, other = Book(), Book()
        book["p"] = PATH
        book.claim(("has", "p", "code"))
        self.assertEqual(state(other), ([], (), 0, 0))


class ClaimTest(BookCase):
    def setUp(self):
        self.book = Book()
        self.book["p"] = PATH

    def test_claims_come_in_their_order(self):
        row = (("has", "p", "hand"), ("codes", "p", 100), ("near", "p", "back", 1), ("has", "p", "hand"))
        for many, claim in enumerate(row, 1):
            self.assertIsNone(self.book.claim(claim))
            self.assertEqual([self.book.claims, self.book.changes], [row[:many], 1 + many])
        self.assertIsNone(self.book.lift(1))
        self.assertEqual(self.book.claims, row[:1] + row[2:])
        self.assertIsNone(self.book.lift(index=0))
        self.assertEqual(self.book.claims, row[2:])
        self.assertEqual(self.book.changes, 7)
        self.book.undo()
        self.assertEqual(self.book.claims, row[:1] + row[2:])

    def test_has_and_lacks_of_webs_of_each_way(self):
        for has, web in EACH_WAY:
            self.book["p"] = web
            for want, having in zip(WANTS, has):
                right, wrong = ("has", "lacks") if having else ("lacks", "has")
                self.assertIsNone(self.book.claim((right, "p", want)))
                self.book.undo()
                self.broken(0, lambda: self.book.claim((wrong, "p", want)))

    def test_codes_at_and_below_the_fewest(self):
        for web, many in ((PATH, 3), (WIDE, 4), (PAIR, 2), (ring(10), 10)):
            self.book["p"] = web
            for number in (1, many - 1):
                self.broken(0, lambda: self.book.claim(("codes", "p", number)))
            for number in (many, many + 1, 100):
                self.assertIsNone(self.book.claim(("codes", "p", number)))
                self.book.undo()
        self.book["p"] = FOUR
        self.broken(0, lambda: self.book.claim(("codes", "p", 100)))

    def test_near_with_zero_one_and_two_changes(self):
        for web in POOL[:6]:
            self.book["p"] = web
            for want, number in itertools.product(WANTS, (0, 1, 2)):
                claim = ("near", "p", want, number)
                if Model.fact("near", web, want) <= number:
                    self.assertIsNone(self.book.claim(claim))
                    self.book.undo()
                else:
                    self.broken(0, lambda: self.book.claim(claim))

    def test_near_with_six_and_with_seven_ties(self):
        self.book["p"] = SIX
        for want, number in itertools.product(WANTS, (0, 1, 2)):
            many = fewest_changes(SIX, want)
            if many is not None and many <= number:
                self.book.claim(("near", "p", want, number))
            else:
                self.broken(len(self.book.claims), lambda: self.book.claim(("near", "p", want, number)))
        self.assertGreater(len(self.book.claims), 3)
        self.broken(0, lambda: self.book.do_all(("set", "p", SEVEN)))
        for web in (SEVEN, ring(7), all_tied(10)):
            self.book["q"] = web
            for want, number in itertools.product(WANTS, (0, 1, 2)):
                self.broken(len(self.book.claims), lambda: self.book.claim(("near", "q", want, number)))

    def test_the_first_claim_that_does_not_hold(self):
        self.book["q"] = PATH
        for claim in (("has", "q", "code"), ("near", "p", "back", 2), ("lacks", "p", "back"), ("has", "p", "code"),
                      ("has", "q", "hand"), ("codes", "p", 3)):
            self.book.claim(claim)
        before = state(self.book)
        for name, web, index in (("p", TURNING, 2), ("p", FOUR, 3), ("p", SEVEN, 1), ("p", PAIR, 2), ("q", FOUR, 0),
                                 ("p", ring(10), 1)):
            with self.assertRaises(Broken) as caught:
                self.book[name] = web
            self.assertEqual(caught.exception.index, index)
            self.assertEqual(state(self.book), before)
        self.book["p"] = Web("0 b 1 b\n1 a 2 b")
        self.assertEqual(self.book.changes, 9)

    def test_webs_in_the_place_of_others_with_all_claims_that_hold(self):
        webs = [web for web in POOL if len(web.ties) <= 3] + [web for _, web in EACH_WAY[1:3]]
        seen = set()
        for (place, web), other in itertools.product(enumerate(webs), webs):
            book, model = Book(), Model()
            model.take(("set", "p", web))
            book["p"] = web
            for claim in self.claims_in_turn(place):
                if model.take(("claim", claim)) is None:
                    book.claim(claim)
            error = model.take(("set", "p", other))
            seen.add(error and error[2])
            with self.subTest(web.plain, other=other.plain):
                if error is None:
                    book["p"] = other
                else:
                    self.due(error, lambda: book.do_all(("set", "p", other)))
                self.assertEqual(state(book), model.state())
        self.assertGreater(len(seen), 8)

    def claims_in_turn(self, place):
        """Claims of all forms, each time with another one ahead."""
        row = [(word, "p", want) for want in WANTS for word in ("has", "lacks")]
        row += [("codes", "p", number) for number in (2, 3, 4, 9)]
        row += [("near", "p", want, number) for want in WANTS for number in (0, 1, 2)]
        place = 5 * place % len(row)
        return row[place:] + row[:place]

    def test_a_claim_that_does_not_hold_has_the_index_behind_the_others(self):
        for many in range(4):
            self.broken(many, lambda: self.book.claim(("has", "p", "back")))
            self.assertEqual(self.book.changes, 1 + many)
            self.book.claim(("has", "p", "code"))

    def test_claims_are_kept_as_they_were_given(self):
        claim = ("near", "p", "back", 1)
        self.book.claim(claim=claim)
        self.assertEqual(self.book.claims, (claim,))
        self.assertEqual([type(part) for part in self.book.claims[0]], [str, str, str, int])

    def test_large_webs(self):
        self.book["p"] = all_tied(10)
        for claim in tuple(("has", "p", want) for want in WANTS) + (("codes", "p", 10),):
            self.book.claim(claim)
        exchanged = Web(all_tied(10).plain.replace("0 a 1", "0 b 1").replace("0 b 2", "0 a 2"))
        self.broken(0, lambda: self.book.do_all(("set", "p", exchanged)))
        self.book["q"] = exchanged
        for want in WANTS:
            self.book.claim(("lacks", "q", want))


class DoAllTest(BookCase):
    def setUp(self):
        self.book = Book()
        self.book["p"] = PATH
        self.book.claim(("has", "p", "code"))
        self.before = state(self.book)

    def test_none(self):
        self.assertEqual(self.book.do_all(), 0)
        self.assertEqual(self.book.do_all(watch=self.fail), 0)
        self.assertEqual(state(self.book), self.before)

    def test_deeds_count_one_by_one(self):
        self.assertEqual(self.book.do_all(("set", "q", FOUR), ("lift", 0), ("drop", "q"), watch=None), 3)
        self.assertEqual([self.book.changes, self.book.claims, self.book.names], [5, (), ("p",)])
        self.book.undo()
        self.assertEqual(self.book.names, ("p", "q"))
        self.book.undo()
        self.assertEqual(self.book.claims, (("has", "p", "code"),))
        self.book.undo()
        self.assertEqual(state(self.book), self.before)

    def test_a_claim_is_lifted_ahead_of_what_would_break_it(self):
        self.broken(0, lambda: self.book.do_all(("set", "p", FOUR), ("lift", 0)))
        self.assertEqual(state(self.book), self.before)
        self.assertEqual(self.book.do_all(("lift", 0), ("set", "p", FOUR)), 2)

    def test_the_first_deed_that_fails(self):
        good = ("set", "q", FOUR)
        for deed, error in (
                (("set", "Q", None), (InvalidName, "given", "Q")), (("set", "q", None), (NotAWeb, "given", None)),
                (("set", "p", FOUR), (Broken, "index", 0)), (("drop", "p"), (InUse, "index", 0)),
                (("drop", "x"), (UnknownName, "given", "x")), (("drop", ()), (UnknownName, "given", ())),
                (("claim", ()), (InvalidClaim, "given", ())), (("claim", ("has", "x", "code")),
                                                               (UnknownName, "given", "x")),
                (("claim", ("has", "q", "code")), (Broken, "index", 1)), (("lift", 1), (InvalidIndex, "given", 1)),
                (("lift", None), (InvalidIndex, "given", None))):
            told = []
            for deeds in ((good, deed), (good, deed, ("lift", 7)), (good, deed, good), (good, good, deed, ("drop", 0))):
                self.due(error, lambda: self.book.do_all(*deeds, watch=lambda book: told.append(book.names)))
                self.assertEqual(state(self.book), self.before)
            self.assertEqual(told, [("p", "q")] * 5)

    def test_what_is_no_deed_ahead_of_all(self):
        wrong = ODD + NUMBERS + (
            "", "set", ("set",), ("set", "q"), ("set", "q", FOUR, 1), ["set", "q", FOUR], ("Set", "q", FOUR), ("drop",),
            ("drop", "p", 1), ("claim",), ("claim", "has", "p", "code"), ("lift",), ("lift", 0, 0), ("undo",),
            ("undo", 1), (b"drop", "p"), (None, "p"), (True, 1), (0, 1), (["set"], "q", FOUR), (("drop",), "p"),
            (Stranger(), "p"), (Stranger(), "q", FOUR), ("q", "set", FOUR), ("", "p"), PATH, ({}, "p"),
        )
        good = ("set", "q", FOUR)
        for value in wrong:
            for index, deeds in enumerate(((value,), (good, value), (good, ("lift", 9), value),
                                           (good,) * 3 + (value, 5))):
                self.due((InvalidDeeds, "index", index), lambda: self.book.do_all(*deeds, watch=self.fail))
                self.assertEqual(state(self.book), self.before)

    def test_errors_of_watch(self):
        error = KeyError("q")

        def watch(book):
            if "q" in book and "r" in book:
                raise error
        for deeds in ((("set", "q", FOUR), ("set", "r", FOUR)), (("set", "r", FOUR), ("set", "q", FOUR), ("lift", 9))):
            with self.assertRaises(KeyError) as caught:
                self.book.do_all(*deeds, watch=watch)
            self.assertIs(caught.exception, error)
            self.assertEqual(state(self.book), self.before)
        for other in (NothingToUndo(), KeyboardInterrupt(), StopIteration(), Broken(7)):
            with self.assertRaises(type(other)) as caught:
                self.book.do_all(("lift", 0), watch=self.raising(other))
            self.assertIs(caught.exception, other)
            self.assertEqual(state(self.book), self.before)

    def raising(self, error):
        def action(book):
            raise error
        return action

    def test_watch_may_try(self):
        def watch(book):
            names = book.names
            told.append(book.tried(lambda inner: inner.do_all(("set", "z", PATH), ("drop", "z"))))
            self.assertEqual(book.names, names)
        told = []
        self.assertEqual(self.book.do_all(("set", "q", FOUR), ("drop", "q"), watch=watch), 2)
        self.assertEqual([told, self.book.changes, self.book.names], [[2, 2], 4, ("p",)])

    def test_what_watch_returns_is_not_asked(self):
        self.assertEqual(self.book.do_all(("lift", 0), ("drop", "p"), watch=lambda book: False), 2)


class TrialTest(BookCase):
    def setUp(self):
        self.book = Book()
        self.book["p"] = PATH
        self.book.claim(("has", "p", "code"))
        self.before = state(self.book)

    def tearDown(self):
        self.assertEqual(state(self.book), self.before)
        self.book.undo()
        self.assertEqual(state(self.book), ([("p", PATH)], (), 1, 1))
        self.book.undo()
        self.assertRaises(NothingToUndo, self.book.undo)

    def test_changes_and_undos_within(self):
        with self.book.trial() as inner:
            self.assertIs(inner, self.book)
            inner.undo()
            inner["p"] = FOUR
            self.book["q"] = PATH
            self.book.drop("p")
            self.assertEqual([inner.names, inner.changes, inner.claims], [("q",), 4, ()])

    def test_errors(self):
        for error in (Broken(7), ZeroDivisionError(), KeyboardInterrupt()):
            with self.assertRaises(type(error)) as caught:
                with self.book.trial() as inner:
                    inner.lift(0)
                    inner.drop("p")
                    raise error
            self.assertIs(caught.exception, error)
            self.assertEqual(state(self.book), self.before)
        self.broken(0, lambda: self.book.tried(lambda inner: inner.do_all(("set", "q", FOUR), ("set", "p", FOUR))))
        with self.assertRaises(NothingToUndo):
            with self.book.trial() as inner:
                for _ in range(3):
                    inner.undo()

    def test_within_one_another(self):
        with self.book.trial() as outer:
            outer["q"] = FOUR
            middle = state(outer)
            with self.assertRaises(InUse):
                with outer.trial() as inner:
                    inner["r"] = FOUR
                    inner.drop("p")
            self.assertEqual(state(outer), middle)
            self.assertEqual(outer.tried(lambda inner: (inner.undo(), inner.undo(), inner.claims)), (None, None, ()))
            self.assertEqual(state(outer), middle)

    def test_the_same_trial_within_itself_and_again(self):
        trial = self.book.trial()
        for _ in range(2):
            with trial as outer:
                outer.lift(0)
                middle = state(outer)
                with trial as inner:
                    inner.drop("p")
                    self.assertFalse(inner)
                self.assertEqual(state(outer), middle)
            self.assertEqual(state(self.book), self.before)

    def test_tried(self):
        self.assertEqual(self.book.tried(lambda inner: (inner.lift(0), inner.claims, len(inner))), (None, (), 1))
        self.assertIs(self.book.tried(action=lambda inner: inner), self.book)


class WrongTest(BookCase):
    def setUp(self):
        self.book = Book()
        self.book["p"] = PATH
        self.book.claim(("has", "p", "code"))
        self.before = state(self.book)

    def tearDown(self):
        self.assertEqual(state(self.book), self.before)

    def put(self, name, web):
        self.book[name] = web

    def test_names(self):
        for name in NAMES:
            self.raises(InvalidName, name, lambda: self.put(name, PATH))
            self.raises(InvalidName, name, lambda: self.put(name, None))
            self.raises(UnknownName, name, lambda: self.book[name])
            self.raises(UnknownName, name, lambda: self.book.drop(name))
            self.raises(UnknownName, name, lambda: self.book.drop(name=name))

    def test_webs(self):
        for web in WEBS + (self.book,):
            self.raises(NotAWeb, web, lambda: self.put("p", web))
            self.raises(NotAWeb, web, lambda: self.put("q", web))

    def test_claims(self):
        for claim in CLAIMS:
            self.raises(InvalidClaim, claim, lambda: self.book.claim(claim))
            self.raises(InvalidClaim, claim, lambda: self.book.claim(claim=claim))
        for claim in CLAIMS:
            if isinstance(claim, tuple) and len(claim) > 1 and claim[1] == "p" and not isinstance(claim[0], Stranger):
                for name in (None, "x", ["p"], Stranger()):
                    changed = claim[:1] + (name,) + claim[2:]
                    self.raises(InvalidClaim, changed, lambda: self.book.claim(changed))

    def test_unknown_names_in_claims(self):
        for name in NAMES + ("q", "P", "pp"):
            for claim in (("has", name, "code"), ("lacks", name, "behind"), ("codes", name, 1), ("codes", name, 100),
                          ("near", name, "hand", 0), ("near", name, "back", 2)):
                self.raises(UnknownName, name, lambda: self.book.claim(claim))

    def test_indexes(self):
        for index in ODD + tuple(n for n in NUMBERS if n != 0) + ("", "0", (0,), [0], PATH):
            self.raises(InvalidIndex, index, lambda: self.book.lift(index))
            self.raises(InvalidIndex, index, lambda: self.book.lift(index=index))
        self.raises(InvalidIndex, 0, lambda: Book().lift(0))

    def test_broken_is_looked_for_last(self):
        self.raises(InvalidName, "P", lambda: self.put("P", FOUR))
        self.raises(NotAWeb, FOUR.text, lambda: self.put("p", FOUR.text))
        self.raises(UnknownName, "q", lambda: self.book.claim(("has", "q", "back")))
        self.broken(1, lambda: self.book.claim(("has", "p", "back")))

    def test_values_that_this_package_returned(self):
        for value in (self.book.claims, self.book.names, self.book.trial(), self.book):
            self.raises(InvalidName, value, lambda: self.put(value, PATH))
            self.raises(InvalidClaim, value, lambda: self.book.claim(value))
            self.raises(InvalidIndex, value, lambda: self.book.lift(value))

    def test_names_of_arguments(self):
        for name, wanted_names in (("drop", ["name"]), ("claim", ["claim"]), ("lift", ["index"]), ("undo", []),
                                   ("do_all", ["deeds", "watch"]), ("trial", []), ("tried", ["action"])):
            self.assertEqual(list(inspect.signature(getattr(self.book, name)).parameters), wanted_names)
            self.assertIn(name, vars(Book))
        for name in ("names", "claims", "changes"):
            self.assertIsInstance(vars(Book)[name], property)
            self.assertRaises(AttributeError, setattr, self.book, name, 1)
        self.assertEqual([Book.__module__, list(inspect.signature(Book).parameters)], ["whichhouse.books", []])


class EqualTest(BookCase):
    def test_equal_only_if_one_object(self):
        book, other = Book(), Book()
        self.assertTrue(book == book)
        self.assertFalse(book != book)
        self.assertFalse(book == other)
        self.assertTrue(book != other)
        for value in ODD + NUMBERS + ("", PATH, Stranger(), Book):
            self.assertIs(book == value, False)
            self.assertIs(book != value, True)

    def test_nothing_given_is_changed(self):
        book, web, claim = Book(), Web("2 a 1 b\n0 a 1 a"), ("near", "p", "back", 2)
        deeds = (("set", "p", web), ("claim", claim), ("claim", ("codes", "p", 3)))
        book.do_all(*deeds)
        self.assertEqual([web.text, web.plain, claim], ["2 a 1 b\n0 a 1 a", PATH.plain, ("near", "p", "back", 2)])
        self.assertEqual(deeds[1], ("claim", claim))

    def test_what_was_told_stays(self):
        book = Book()
        book["p"] = PATH
        book.claim(("has", "p", "code"))
        names, claims = book.names, book.claims
        book.lift(0)
        book.drop("p")
        self.assertEqual([names, claims], [("p",), (("has", "p", "code"),)])

    def test_many_changes(self):
        book = Book()
        for _ in range(3000):
            book["p"] = PAIR
        self.assertEqual(book.changes, 3000)
        for _ in range(3000):
            book.undo()
        self.assertEqual(state(book), ([], (), 0, 0))

    def test_all_letters_in_names(self):
        book = Book()
        for letter in LETTERS + "mnopqrstuvwxyz":
            book[letter * 8] = PAIR
            book[letter] = PAIR
        self.assertEqual(len(book), 52)


if __name__ == "__main__":
    unittest.main()
