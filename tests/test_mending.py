"""Changes of marks: the fewest that mend a web, and those that harm it (points 2 and 13)."""

import itertools
import random
import time
import unittest

from tests.cases import Case
from tests.counting import EACH_WAY, FOUR, LETTERS, PATH, TURNING, WANTS, all_tied, board, large_webs, random_web, ring
from tests.counting import small_webs, star, turned_round, wanted, webs_on
from whichhouse.backwards import has_want
from whichhouse.codes import has_code
from whichhouse.errors import TooMany
from whichhouse.mending import fewest_changes, harms, mend
from whichhouse.webs import Web

SEVEN = Web("0 a 1 a\n1 b 2 b\n2 c 3 c\n3 d 4 d\n4 e 5 e\n5 f 6 f\n6 g 7 g")
SIX = Web("0 a 1 a\n1 b 2 b\n2 c 3 c\n3 d 4 d\n4 e 5 e\n5 f 6 f")

# Two changes are not enough for a back code.
BARRED = Web("0 c 1 a\n0 b 2 a\n1 b 2 c")


def changes_of(web):
    """All changes of a web, read off its text."""
    ends = []
    for line in web.text.split("\n"):
        x, m, y, n = line.split(" ")
        ends += [(int(x), m), (int(y), n)]
    return [(x, m, other) for x, m in ends for other in LETTERS if (x, other) not in ends]


def after(web, change):
    """The web behind a change, made on its text."""
    house, mark, other = change
    lines = []
    for line in web.text.split("\n"):
        x, m, y, n = line.split(" ")
        m = other if (int(x), m) == (house, mark) else m
        n = other if (int(y), n) == (house, mark) else n
        lines.append(f"{x} {m} {y} {n}")
    return Web("\n".join(lines))


class Trying:
    """All webs that come from one by changes, and whether they have what is wanted by the tests' own counting."""

    def __init__(self):
        self.known = {}

    def has(self, web, want):
        # Letters may be renamed without a change of what a web has.
        names = {letter: LETTERS[k] for k, letter in enumerate(dict.fromkeys(c for c in web.plain if c in LETTERS))}
        key = "".join(names.get(sign, sign) for sign in web.plain), want
        if key not in self.known:
            self.known[key] = wanted(web, want)
        return self.known[key]

    def fewest(self, web, want):
        near = {web.plain: web}
        for many in range(3):
            if any(self.has(one, want) for one in near.values()):
                return many
            if many < 2:
                changed = [after(one, change) for one in near.values() for change in changes_of(one)]
                near = {one.plain: one for one in changed}
        return None


TRYING = Trying()


def webs_to_mend():
    """Webs of up to three ties."""
    webs = [PATH, TURNING, FOUR, Web("0 a 1 a"), Web("0 a 1 b"), Web("0 a 1 a\n1 b 2 a"), star(3, "a"), star(3, "aab")]
    webs += list(webs_on([(0, 1), (1, 2), (0, 2)], "ab"))[::3]
    webs += list(webs_on([(0, 1), (1, 2), (0, 2)], "abc"))[::43] + [BARRED]
    webs += list(webs_on([(0, 1), (1, 2), (2, 3)], "ab"))[::3]
    webs += list(webs_on([(0, 1), (0, 2), (0, 3)], "abc"))[::23]
    return webs


class ExampleTest(Case):
    def test_the_examples_of_the_document(self):
        told = [
            fewest_changes(PATH, "code"), fewest_changes(FOUR, "code"), has_code(mend(FOUR, "code")),
            fewest_changes(PATH, "back"), harms(Web("0 a 1 a"), "behind"),
        ]
        self.assertEqual(told, [0, 1, True, 1, ()])


class MendTest(Case):
    def check(self, web, want, many):
        """Whether the mended web has what is wanted, the same ties, and just so many marks otherwise."""
        mended = mend(web, want)
        self.assertEqual(mended is None, many is None)
        if mended is not None:
            self.assertIs(type(mended), Web)
            self.assertTrue(wanted(mended, want))
            self.assertEqual([(x, y) for x, y, _, _ in rows(mended)], [(x, y) for x, y, _, _ in rows(web)])
            pairs = zip(rows(mended), rows(web))
            self.assertEqual(sum((m != k) + (n != j) for (_, _, m, n), (_, _, k, j) in pairs), many)

    def test_webs_of_up_to_three_ties_against_trying_all_changes(self):
        seen = []
        for web, want in itertools.product(webs_to_mend(), WANTS):
            many = TRYING.fewest(web, want)
            seen.append(many)
            with self.subTest(web.plain, want=want):
                self.assertEqual(fewest_changes(web, want), many)
                self.check(web, want, many)
        self.assertEqual(set(seen), {0, 1, 2, None})

    def test_two_changes_are_not_enough(self):
        # All houses but 0 must have unlike marks for a back code.
        for leaves, many in ((2, 1), (3, 2), (4, None), (5, None), (6, None)):
            for want in ("back", "behind"):
                self.assertEqual(fewest_changes(star(leaves, "l"), want), many)
                self.check(star(leaves, "l"), want, many)

    def test_the_changes_that_are_left_to_do(self):
        for web in (star(4, "l"), star(4, "lk"), star(5, "lk"), star(5, "lkj")):
            many = TRYING.fewest(web, "back")
            self.assertEqual(fewest_changes(web, "back"), many)
            self.check(web, "back", many)

    def test_none_is_needed(self):
        for has, web in EACH_WAY:
            for want in [want for want, true in zip(WANTS, has) if true]:
                self.assertEqual(fewest_changes(web, want), 0)
                self.assertEqual(mend(web, want), web)

    def test_marks_may_go_round(self):
        # A letter must leave its place at a house first before another tie there can get it.
        web = Web("0 a 1 a\n0 b 2 a\n1 b 2 b")
        for want in WANTS:
            self.assertEqual(fewest_changes(web, want), TRYING.fewest(web, want))
            self.check(web, want, TRYING.fewest(web, want))

    def test_six_ties_are_let_and_seven_are_not(self):
        self.assertEqual(fewest_changes(SIX, "behind"), 0)
        self.assertEqual(mend(SIX, "behind"), SIX)
        for web in [SEVEN] + [web for web in large_webs() if len(web.ties) > 6]:
            for want, action in itertools.product(WANTS, (fewest_changes, mend)):
                with self.assertRaises(TooMany) as caught:
                    action(web, want)
                self.assertEqual(caught.exception.limit, 6)
                self.assertIs(type(caught.exception.limit), int)

    def test_six_ties_within_seconds(self):
        source = random.Random(31)
        webs = [star(6, "l"), star(6, "lk"), star(6, "ggghhh"), star(6, "gghhii"), SIX, ring(6)]
        webs += [random_web(source, houses, 7 - houses, letters) for houses in (4, 5, 6, 7) for letters in (2, 4, 6)]
        for web, want in itertools.product(webs, WANTS):
            begun = time.monotonic()
            many = fewest_changes(web, want)
            self.check(web, want, many)
            self.assertLess(time.monotonic() - begun, 10)

    def test_equal_webs_tell_equal_things(self):
        for web in (PATH, FOUR, star(3, "a"), ring(4)):
            for want in WANTS:
                self.assertEqual(mend(web, want), mend(turned_round(web), want))
                self.assertEqual(mend(want=want, web=web), mend(web, want))
                self.assertEqual(fewest_changes(want=want, web=web), fewest_changes(web, want))

    def test_what_is_given_is_not_changed(self):
        text = "2 b 3 a\n0 a 1 a\n1 b 2 a"
        web = Web(text)
        mend(web, "code")
        harms(web, "code")
        self.assertEqual([web.text, web.plain], [text, FOUR.plain])


def rows(web):
    """The ties with the houses ahead, in order."""
    return sorted((x, y, m, n) for x, m, y, n in web.ties)


class HarmsTest(Case):
    def test_small_webs_against_trying_all_changes(self):
        seen = {None: 0, False: 0, True: 0}
        for web, want in itertools.product(webs_to_mend() + [web for _, web in EACH_WAY], WANTS):
            told = harms(web, want)
            with self.subTest(web.plain, want=want):
                if not wanted(web, want):
                    self.assertIsNone(told)
                    seen[None] += 1
                    continue
                spoilt = [change for change in changes_of(web) if not TRYING.has(after(web, change), want)]
                self.assertEqual(told, tuple(sorted(spoilt)))
                seen[bool(spoilt)] += 1
        self.assertGreater(min(seen.values()), 5)

    def test_no_change_spoils_it(self):
        for want in WANTS:
            self.assertEqual(harms(Web("0 a 1 a"), want), ())
            self.assertEqual(harms(Web("0 a 1 b"), want), ())

    def test_it_is_not_there(self):
        self.assertIsNone(harms(FOUR, "code"))
        self.assertIsNone(harms(PATH, "back"))
        for has, web in EACH_WAY:
            self.assertEqual(tuple(harms(web, want) is not None for want in WANTS), has)

    def test_more_than_six_ties_are_let(self):
        self.assertEqual(harms(SEVEN, "code"), tuple(sorted(
            change for change in changes_of(SEVEN) if not has_want(after(SEVEN, change), "code")
        )))

    def test_large_webs_within_seconds(self):
        for web in [ring(10), board(3, 3), all_tied(10), all_tied(9)] + large_webs()[9::9]:
            for want in WANTS:
                begun = time.monotonic()
                told = harms(web, want)
                self.assertLess(time.monotonic() - begun, 10)
                self.assertEqual(told is None, not has_want(web, want))
                for change in (told or ())[::7]:
                    self.assertFalse(has_want(web.changed(*change), want))
                if told:
                    self.assertEqual(list(told), sorted(set(told)))
                    others = [change for change in changes_of(web) if change not in told]
                    self.assertTrue(all(has_want(after(web, change), want) for change in others[::7]))

    def test_kinds_of_values(self):
        told = harms(Web("0 a 2 a\n1 b 2 b"), "back")
        self.assertEqual(told, ((0, "a", "b"), (1, "b", "a")))
        self.assertEqual({type(row) for row in told + (told,)}, {tuple})
        self.assertEqual([{type(row[k]) for row in told} for k in range(3)], [{int}, {str}, {str}])

    def test_equal_webs_tell_equal_things(self):
        for web in small_webs()[::20]:
            for want in WANTS:
                self.assertEqual(harms(web, want), harms(turned_round(web), want))
                self.assertEqual(harms(want=want, web=web), harms(web, want))


if __name__ == "__main__":
    unittest.main()
