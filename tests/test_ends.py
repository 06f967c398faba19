"""Alike ends, and reading back (point 12)."""

import itertools
import unittest

from tests.cases import Case
from tests.counting import EACH_WAY, PATH, TURNING, all_tied, board, large_webs, numbered, ring, small_webs
from tests.counting import steps_of, turned_round, webs_on
from whichhouse.backwards import can_behind, has_back
from whichhouse.codes import has_code
from whichhouse.ends import alike_ends, reading_back
from whichhouse.errors import NoCode
from whichhouse.handing import can_hand
from whichhouse.webs import Web


def ends_of(web):
    """For each mark the marks at the other ends of ties with it."""
    ends = {}
    for line in web.text.split("\n"):
        _, mark, _, back = line.split(" ")
        ends.setdefault(mark, set()).add(back)
        ends.setdefault(back, set()).add(mark)
    return ends


def way_back(web, house, word):
    """The marks that lead back along the way of a word, and where it ends, None if it cannot be walked."""
    steps, backs = steps_of(web), ""
    for mark in word:
        if (house, mark) not in steps:
            return None
        after = steps[house, mark]
        backs += next(m for (x, m), y in steps.items() if (x, y) == (after, house))
        house = after
    return backs[::-1]


def words(letters, longest):
    for many in range(1, longest + 1):
        yield from ("".join(row) for row in itertools.product(letters, repeat=many))


WITH = (
    TURNING, ring(5), ring(10), board(3, 3), all_tied(4), all_tied(10), Web("0 a 1 a"), Web("0 a 1 b"),
    Web("0 a 1 b\n1 a 2 b"), Web("0 a 1 a\n1 b 2 b"), Web("0 c 1 l\n1 b 2 b\n2 l 3 c"), numbered(PATH),
)


# With alike ends: without any code, and with codes of which none can be handed on.
SOME_WAYS = (
    Web("0 c 3 c\n1 b 2 a\n1 a 4 b\n2 c 4 c\n3 b 4 a"),
    Web("0 a 1 b\n0 f 3 f\n0 c 4 c\n1 c 2 c\n1 e 3 d\n2 d 4 e\n3 b 4 a"),
)


class ExampleTest(Case):
    def test_the_examples_of_the_document(self):
        told = [alike_ends(TURNING), alike_ends(PATH), reading_back(TURNING, "aab")]
        self.assertEqual(told, [(("a", "b"), ("b", "a")), None, "abb"])


class AlikeTest(Case):
    def test_many_webs(self):
        seen = {True: 0, False: 0}
        for web in small_webs() + large_webs() + list(WITH):
            ends = ends_of(web)
            alike = all(len(backs) == 1 for backs in ends.values())
            seen[alike] += 1
            wanted = tuple(sorted((mark, min(backs)) for mark, backs in ends.items())) if alike else None
            self.assertEqual(alike_ends(web), wanted, web.plain)
        self.assertGreater(min(seen.values()), 20)

    def test_with_them(self):
        self.assertEqual(alike_ends(Web("0 a 1 a")), (("a", "a"),))
        self.assertEqual(alike_ends(Web("0 l 1 b")), (("b", "l"), ("l", "b")))
        self.assertEqual(alike_ends(Web("1 l 0 b")), (("b", "l"), ("l", "b")))
        self.assertEqual(alike_ends(board(3, 3)), (("a", "b"), ("b", "a"), ("c", "d"), ("d", "c")))
        for web in WITH:
            self.assertIsNotNone(alike_ends(web))

    def test_without_them(self):
        for text in (
            "0 a 1 a\n1 b 2 a", "0 a 1 b\n1 a 2 a", "0 a 1 b\n1 c 2 b", "0 a 1 b\n1 c 2 a", "0 a 1 b\n1 a 2 c",
            "0 a 1 a\n1 b 2 b\n2 a 3 c",
        ):
            self.assertIsNone(alike_ends(Web(text)))
            self.assertIsNone(alike_ends(turned_round(Web(text))))

    def test_with_them_both_ways_have_the_same(self):
        many = 0
        webs = list(webs_on([(0, 1), (1, 2), (2, 3), (3, 0)], "abc"))
        for web in webs + small_webs() + large_webs():
            if alike_ends(web) is not None:
                many += 1
                self.assertEqual([has_code(web), can_hand(web)], [has_back(web), can_behind(web)])
        self.assertGreater(many, 50)
        for web, has in zip(SOME_WAYS, (False, True)):
            self.assertEqual([has_code(web), has_back(web), can_hand(web), can_behind(web)], [has, has, False, False])

    def test_kinds_of_values(self):
        told = alike_ends(TURNING)
        self.assertEqual({type(row) for row in told + (told,)}, {tuple})
        self.assertEqual({type(mark) for row in told for mark in row}, {str})


class ReadingBackTest(Case):
    def test_all_short_words(self):
        seen = {True: 0, False: 0}
        for web in [web for web in small_webs() + list(WITH) if alike_ends(web) is not None]:
            for word in words(web.marks[:4], 3):
                ways = {way_back(web, house, word) for house in range(web.houses)} - {None}
                self.assertLessEqual(len(ways), 1)
                seen[bool(ways)] += 1
                self.assertEqual(reading_back(web, word), min(ways, default=None), (web.plain, word))
        self.assertGreater(min(seen.values()), 50)

    def test_one_comes_back(self):
        for web in WITH:
            for word in words(web.marks[:3], 3):
                for house in range(web.houses):
                    end = web.go(house, word)
                    if end is not None:
                        self.assertEqual(web.go(end, reading_back(web, word)), house)

    def test_words_that_can_be_walked_from_some_houses(self):
        web = Web("0 a 1 b\n1 a 2 b")
        self.assertEqual([reading_back(web, "aa"), reading_back(web, "ab"), reading_back(web, "bba")],
                         ["bb", "ab", "baa"])

    def test_words_that_can_be_walked_from_nowhere(self):
        web = Web("0 a 1 b\n1 a 2 b")
        for word in ("aaa", "c", "l", "ac", "ca", "bbb", "a" * 200):
            self.assertIsNone(reading_back(web, word))

    def test_words_of_200_marks(self):
        self.assertEqual(reading_back(TURNING, "a" * 200), "b" * 200)
        self.assertEqual(reading_back(ring(10), "a" * 199 + "b"), "a" + "b" * 199)

    def test_by_name(self):
        self.assertEqual(reading_back(word="ab", web=TURNING), "ab")
        self.assertEqual(alike_ends(web=TURNING), alike_ends(TURNING))

    def test_no_alike_ends(self):
        for web in (PATH, EACH_WAY[0][1]):
            self.assertIsNone(alike_ends(web))
            for word in ("a", "c", "l", "a" * 200):
                with self.assertRaises(NoCode):
                    reading_back(web, word)

    def test_a_web_without_a_code_can_have_alike_ends(self):
        web, _ = SOME_WAYS
        self.assertEqual(alike_ends(web), (("a", "b"), ("b", "a"), ("c", "c")))
        self.assertEqual([has_code(web), reading_back(web, "ac"), reading_back(web, "bb"), reading_back(web, "d")],
                         [False, "cb", "aa", None])


if __name__ == "__main__":
    unittest.main()
