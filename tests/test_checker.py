"""Claims for the checker and their papers (point 15)."""

import inspect
import itertools
import random
import time
import unittest

from tests.cases import Case
from tests.counting import EACH_WAY, FOUR, PATH, TURNING, WANTS, all_tied, behind_classes, large_webs, linked_classes
from tests.counting import ring, small_webs, steps_of, table_from, turned_round, wanted, wide_classes
from tests.values import NUMBERS, ODD, Stranger, nested
from whichhouse.backwards import back_codes, behind_codes
from whichhouse.checker import accepts
from whichhouse.codes import codes, few_codes, has_code, quarrel
from whichhouse.handing import hand_codes
from whichhouse.webs import Web

CLASSES = {"code": linked_classes, "hand": wide_classes, "back": linked_classes, "behind": behind_classes}
KNOWN = {}
# They have a code, but none that can be handed on.
BARRED = tuple(web for (code, hand, _, _), web in EACH_WAY if code and not hand)
BARRED_BEHIND = tuple(web for (_, _, back, behind), web in EACH_WAY if back and not behind)
# The classes are not wide enough for a code that can be handed on.
WIDER = Web("0 a 1 b\n1 c 2 c\n1 e 3 b\n2 b 3 a")
CODE_PAPER = (
    ((3, 2), (0, 1), ("word", "a")), ((0, 1), (3, 0), ("word", "aaa")), ((3, 2), (3, 0), ("chain", 0, 1)),
)
TURNED_PAPER = (
    ((0, 1), (3, 2), ("word", "a")), ((0, 1), (3, 0), ("word", "aaa")), ((3, 2), (0, 1), ("turn", 0)),
    ((3, 2), (3, 0), ("chain", 2, 1)),
)


def classes(web, want):
    if (web.plain, want) not in KNOWN:
        KNOWN[web.plain, want] = CLASSES[want](web)
    return KNOWN[web.plain, want]


def shows(claim, paper):
    """Whether a paper of the right kinds shows a claim, by the words of the document."""
    word, text, want = claim
    web = Web(text)
    if word == "has":
        return shows_having(web, want, paper)
    if not 1 <= len(paper) <= 20000:
        return False
    steps = steps_of(web)
    if not all(is_right(steps, want, paper, at) for at in range(len(paper))):
        return False
    (x, y), (u, v), _ = paper[-1]
    return y == v and x != u if want in ("back", "behind") else x == u and y != v


def shows_having(web, want, paper):
    count = web.houses
    if len(paper) != count or any(len(row) != count or min(row) < 0 for row in paper):
        return False
    if any(len({paper[x][y] for x, y in one}) > 1 for one in classes(web, want)):
        return False
    rows = zip(*paper) if want in ("back", "behind") else paper
    return all(len(set(row)) == count for row in rows)


def is_right(steps, want, paper, at):
    pair, other, (reason, *told) = paper[at]
    if not all(any(house == x for x, _ in steps) for house in pair + other):
        return False
    if reason == "word":
        return len(told) == 1 and 1 <= len(told[0]) <= 200 and all(end(steps, x, told[0]) == y for x,
                                                                   y in (pair, other))
    if not all(0 <= index < at for index in told if isinstance(index, int)):
        return False
    if reason == "turn":
        return len(told) == 1 and paper[told[0]][:2] == (other, pair)
    if len(told) != 2:
        return False
    if reason == "chain":
        (one, middle), (third, two) = paper[told[0]][:2], paper[told[1]][:2]
        return one == pair and middle == third and two == other
    mark, ((x, y), (u, v), _) = told[0], paper[told[1]]
    if reason == "ahead" and want == "hand":
        (z, same), (w, too) = pair, other
        return (same, too) == (y, v) and steps.get((z, mark)) == x and steps.get((w, mark)) == u
    if reason == "after" and want == "behind":
        (same, z), (too, w) = pair, other
        return (same, too) == (x, u) and steps.get((y, mark)) == z and steps.get((v, mark)) == w
    return False


def end(steps, house, word):
    for mark in word:
        house = steps.get((house, mark))
    return house


def paths(value):
    """The places of all parts of nested tuples, the whole ahead."""
    yield ()
    if isinstance(value, tuple):
        for k, part in enumerate(value):
            yield from ((k,) + path for path in paths(part))


def part_at(value, path):
    for k in path:
        value = value[k]
    return value


def replaced(value, path, part):
    if not path:
        return part
    k = path[0]
    return value[:k] + (replaced(value[k], path[1:], part),) + value[k + 1:]


def like(part):
    """Other values of the kind of a part."""
    if isinstance(part, int):
        return [n for n in (-1, 0, 1, 2, 3, 4, 5, 10 ** 39) if n != part]
    if isinstance(part, str):
        return [text for text in ("a", "b", "c", "aa", "ab", "aaa", "word", "turn", "chain", "ahead",
                                  "after") if text != part]
    return [part[:-1], part + (0,), part + part[-1:], part[::-1], (), part[1:]]


def hand_paper(web):
    """Lines for a web with a code that cannot be handed on: all that words bind, then steps ahead, then chains."""
    return bound_paper(web, "ahead", lambda steps, x, y: [(m, (z, y)) for (z, m), to in steps.items() if to == x])


def behind_paper(web):
    return bound_paper(web, "after", lambda steps, x, y: [(m, (x, to)) for (at, m), to in steps.items() if at == y])


def bound_paper(web, reason, longer):
    """Each line that can be written, up to the first one with pairs that are parted."""
    steps, lines, known = steps_of(web), [], {}

    def write(pair, other, why):
        if (pair, other) not in known:
            known[pair, other] = len(lines)
            lines.append((pair, other, why))

    houses = range(web.houses)
    starts = [((x, u), "") for x, u in itertools.product(houses, repeat=2) if x != u]
    for (x, u), _ in starts:
        waiting = [(x, u, "")]
        seen = set()
        while waiting:
            here, there, word = waiting.pop(0)
            for m in web.marks:
                to, beside = steps.get((here, m)), steps.get((there, m))
                if to is not None and beside is not None and (to, beside) not in seen:
                    seen.add((to, beside))
                    write((x, to), (u, beside), ("word", word + m))
                    waiting.append((to, beside, word + m))
    before = -1
    while before < len(lines):
        before = len(lines)
        for (pair, other), at in list(known.items()):
            for (m, one), (n, two) in itertools.product(longer(steps, *pair), longer(steps, *other)):
                if m == n and one != two:
                    write(one, two, (reason, m, at))
        for (pair, other), at in list(known.items()):
            for (third, last), later in list(known.items()):
                if other == third and pair != last:
                    write(pair, last, ("chain", at, later))
        for at, (pair, other, _) in enumerate(lines):
            parted = pair[0] == other[0] if reason == "ahead" else pair[1] == other[1]
            if parted and pair != other:
                return tuple(lines[:at + 1])
    return None


HAND = (("lacks", BARRED[1].plain, "hand"), hand_paper(BARRED[1]))
BEHIND = (("lacks", BARRED_BEHIND[0].plain, "behind"), behind_paper(BARRED_BEHIND[0]))
GOOD = (
    (("has", PATH.plain, "code"), ((0, 1, 2), (1, 0, 3), (0, 1, 2))),
    (("has", PATH.plain, "hand"), ((0, 1, 2), (1, 0, 3), (0, 1, 2))),
    (("has", TURNING.plain, "code"), ((5, 1, 2), (2, 5, 1), (1, 2, 5))),
    (("has", TURNING.plain, "back"), ((0, 1, 2), (2, 0, 1), (1, 2, 0))),
    (("has", TURNING.plain, "behind"), ((0, 1, 2), (2, 0, 1), (1, 2, 0))),
    (("lacks", FOUR.plain, "code"), CODE_PAPER), (("lacks", FOUR.plain, "code"), TURNED_PAPER),
    (("lacks", FOUR.plain, "hand"), CODE_PAPER), (("lacks", PATH.plain, "back"), (((0, 1), (2, 1), ("word", "a")),)),
    (("lacks", PATH.plain, "behind"), (((0, 1), (2, 1), ("word", "a")),)), HAND, BEHIND,
)


class ExampleTest(Case):
    def test_the_examples_of_the_document(self):
        told = [
            accepts(("lacks", FOUR.plain, "code"), CODE_PAPER),
            accepts(("has", TURNING.plain, "code"), ((5, 1, 2), (2, 5, 1), (1, 2, 5))),
            accepts(("has", PATH.plain, "code"), ((0, 1, 2), (1, 0, 2), (0, 1, 2))),
            accepts(("has", PATH.plain, "hand"), None),
        ]
        self.assertEqual(told, [True, True, True, False])

    def test_good_ones(self):
        for claim, paper in GOOD:
            with self.subTest(claim):
                self.assertTrue(shows(claim, paper))
                self.assertIs(accepts(claim, paper), True)
                self.assertIs(accepts(paper=paper, claim=claim), True)
        self.assertEqual(list(inspect.signature(accepts).parameters), ["claim", "paper"])

    def test_all_reasons_are_among_them(self):
        for _, paper in (HAND, BEHIND):
            self.assertLess(len(paper), 300)
        reasons = [line[2][0] for claim, paper in GOOD if claim[0] == "lacks" for line in paper]
        self.assertEqual(set(reasons), {"word", "turn", "chain", "ahead", "after"})


class HasTest(Case):
    def test_the_tables_of_the_classes(self):
        seen = {True: 0, False: 0}
        for web, want in itertools.product(small_webs(), WANTS):
            table = table_from(web, classes(web, want))
            having = wanted(web, want)
            seen[having] += 1
            with self.subTest(web.plain, want=want):
                self.assertIs(accepts(("has", web.plain, want), table), having)
                self.assertIs(accepts(("has", turned_round(web).text, want), table), having)
                self.assertIs(accepts(("lacks", web.plain, want), table), False)
        self.assertGreater(min(seen.values()), 200)

    def test_other_numbers_and_fewer(self):
        source = random.Random(23)
        seen = {True: 0, False: 0}
        for web, want in itertools.product(small_webs()[::3], WANTS):
            sets = classes(web, want)
            for values in (len(sets), len(sets), len(sets) - 1, len(sets) // 2, 3):
                numbers = source.sample(range(values * 3 + 9), len(sets)) if values == len(sets) else [
                    source.randrange(max(values, 1)) for _ in sets]
                number = {pair: numbers[k] for k, one in enumerate(sets) for pair in one}
                table = tuple(tuple(number[x, y] for y in range(web.houses)) for x in range(web.houses))
                right = shows(("has", web.plain, want), table)
                seen[right] += 1
                self.assertIs(accepts(("has", web.plain, want), table), right, (web.plain, want, table))
        self.assertGreater(min(seen.values()), 100)

    def test_the_tables_that_this_package_tells(self):
        for web in small_webs() + large_webs():
            for tell, want in ((codes, "code"), (few_codes, "code"), (hand_codes, "hand"), (back_codes, "back"),
                               (behind_codes, "behind")):
                self.assertIs(accepts(("has", web.text, want), tell(web)), tell(web) is not None)

    def test_one_number_otherwise(self):
        seen = {True: 0, False: 0}
        for web, want in itertools.product(small_webs()[::6], WANTS):
            table = table_from(web, classes(web, want))
            for x, y in itertools.product(range(web.houses), repeat=2):
                for number in (0, 1, 2, table[x][y] + 1, 99, 10 ** 39):
                    changed = replaced(table, (x, y), number)
                    right = shows(("has", web.plain, want), changed)
                    seen[right] += 1
                    self.assertIs(accepts(("has", web.plain, want), changed), right)
        self.assertGreater(min(seen.values()), 100)

    def test_bound_pairs_have_one_number_too(self):
        table = table_from(WIDER, linked_classes(WIDER))
        self.assertIs(accepts(("has", WIDER.plain, "code"), table), True)
        self.assertIs(accepts(("has", WIDER.plain, "hand"), table), False)
        self.assertIs(accepts(("has", WIDER.plain, "hand"), table_from(WIDER, wide_classes(WIDER))), True)

    def test_unlike_numbers_for_the_ends_or_for_the_beginnings(self):
        web = Web("0 a 1 b")
        for table, forth, back in ((((0, 1), (2, 3)), True, True), (((0, 0), (1, 2)), False, True),
                                   (((0, 1), (0, 2)), True, False), (((0, 1), (1, 0)), True, True),
                                   (((0, 0), (0, 0)), False, False)):
            for want in ("code", "hand"):
                self.assertIs(accepts(("has", web.plain, want), table), forth)
            for want in ("back", "behind"):
                self.assertIs(accepts(("has", web.plain, want), table), back)

    def test_other_forms_of_tables(self):
        claim, table = GOOD[0]
        for wrong in (table[:2], table + ((0, 1, 2),), tuple(row[:2] for row in table),
                      tuple(row + (9,) for row in table),
                      (table[0], table[1], table[2][:2]), (), ((), (), ()), sum(table, ()), (table,), list(table),
                      tuple(list(row) for row in table), [list(row) for row in table], ("012", "103", "012"),
                      "012103012",
                      (b"\0\1\2", b"\1\0\3", b"\0\1\2"), {0: table[0], 1: table[1], 2: table[2]},
                      ((0, 1, 2), (1, 0, 3), (False, 1, 2)), ((0, True, 2), (1, 0, 3), (0, 1, 2)),
                      ((0, True, 2), (True, 0, 3), (0, True, 2)), ((-1, 1, 2), (1, -1, 3), (-1, 1, 2)),
                      ((None, 1, 2), (1, None, 3), (None, 1, 2)), (("x", 1, 2), (1, "x", 3), ("x", 1, 2))):
            self.assertIs(accepts(claim, wrong), False)
        self.assertIs(accepts(claim, ((10 ** 39, 1, 2), (1, 10 ** 39, 3), (10 ** 39, 1, 2))), True)

    def test_large_webs(self):
        for web in (ring(10), all_tied(10)):
            table = tuple(tuple((y - x) % 10 for y in range(10)) for x in range(10))
            for want in WANTS:
                self.assertIs(accepts(("has", web.plain, want), table), True)
                self.assertIs(accepts(("has", web.plain, want), replaced(table, (9, 9), 10)), False)
        for web, want in itertools.product(large_webs(), WANTS):
            table = tuple(tuple(10 * x + y for y in range(web.houses)) for x in range(web.houses))
            begun = time.monotonic()
            accepts(("has", web.plain, want), table)
            self.assertLess(time.monotonic() - begun, 3)


class LacksTest(Case):
    def test_each_thing_otherwise(self):
        seen = {True: 0, False: 0}
        for claim, paper in GOOD:
            for path in list(paths(paper))[:400]:
                part = part_at(paper, path)
                for other in like(part):
                    changed = replaced(paper, path, other)
                    try:
                        right = shows(claim, changed)
                    except (ValueError, TypeError, IndexError, KeyError):
                        # It has not even the form of a paper.
                        right = False
                    seen[right] += 1
                    self.assertIs(accepts(claim, changed), right, (claim, changed))
        self.assertGreater(min(seen.values()), 50)

    def test_each_part_replaced_by_values_of_all_kinds(self):
        for claim, paper in GOOD:
            shorter = list(paths(paper))
            for path, value in itertools.product(shorter[:60] + shorter[60:][-100:],
                                                 ODD + ("", "x", nested(8), PATH, Stranger(), -1)):
                changed = replaced(paper, path, value)
                self.assertIs(accepts(claim, changed), False, (claim, path))
            for path in paths(claim):
                for value in ODD + NUMBERS + ("", "x", PATH, Stranger()):
                    self.assertIs(accepts(replaced(claim, path, value), paper), False, (claim, path))

    def test_lists_and_truths_in_the_place_of_tuples_and_numbers(self):
        for claim, paper in GOOD:
            for path in list(paths(paper))[:300]:
                part = part_at(paper, path)
                if isinstance(part, tuple):
                    self.assertIs(accepts(claim, replaced(paper, path, list(part))), False)
                elif part in (0, 1):
                    self.assertIs(accepts(claim, replaced(paper, path, bool(part))), False)
            self.assertIs(accepts(list(claim), paper), False)
            self.assertIs(accepts(claim + (1,), paper), False)
            self.assertIs(accepts(claim[:2], paper), False)

    def test_claims_otherwise(self):
        for claim, paper in GOOD:
            word, text, want = claim
            for other in ("lacks", "has", "Has", "had", "", "codes", "near"):
                if other != word:
                    self.assertIs(accepts((other, text, want), paper), False)
            for other in WANTS + ("Code", "", "codes"):
                changed = (word, text, other)
                self.assertIs(accepts(changed, paper), other in WANTS and shows(changed, paper))
            for other in ("", "p", text + "\n", "\n" + text, text + " ", text[:2] + "?" + text[3:],
                          text.replace("0", "00"),
                          text.replace("\n", " / "), text + "\n8 a 9 a", text.replace("0", "9"), text.upper()):
                self.assertIs(accepts((word, other, want), paper), False)

    def test_texts_in_other_orders(self):
        for (word, text, want), paper in GOOD:
            self.assertIs(accepts((word, turned_round(Web(text)).text, want), paper), True)
            self.assertIs(accepts((word, "\n".join(text.split("\n")[::-1]), want), paper), True)

    def test_a_reason_of_handing_on_stands_for_its_own_want_alone(self):
        for claim, paper in (HAND, BEHIND):
            self.assertTrue(any(line[2][0] in ("ahead", "after") for line in paper))
            for want in WANTS:
                self.assertIs(accepts(claim[:2] + (want,), paper), want == claim[2])

    def test_the_quarrels_that_this_package_tells(self):
        many = 0
        for web in small_webs() + large_webs():
            rows = quarrel(web) or ()
            lines = [(pair, other, ("word", word)) for pair, other, word in rows]
            for at in range(1, len(rows)):
                before = at - 1 if at == 1 else len(lines) - 1
                lines.append((rows[0][0], rows[at][1], ("chain", before, at)))
            many += bool(lines)
            self.assertIs(accepts(("lacks", web.text, "code"), tuple(lines)), not has_code(web))
        self.assertGreater(many, 50)

    def test_one_line(self):
        claim = ("lacks", PATH.plain, "back")
        self.assertIs(accepts(claim, (((0, 1), (2, 1), ("word", "a")),)), True)
        self.assertIs(accepts(claim, (((2, 1), (0, 1), ("word", "a")),)), True)
        self.assertIs(accepts(claim, (((0, 2), (2, 2), ("word", "ab")),)), True)
        for line in (((0, 1), (2, 1), ("word", "b")), ((0, 1), (1, 0), ("word", "a")), ((0, 1), (0, 1), ("word", "a")),
                     ((0, 1), (2, 1), ("turn", 0)), ((0, 1), (2, 1), ("chain", 0, 0)), ((0, 1), (2, 1), ("turn", -1)),
                     ((0, 1), (2, 1), ("after", "a", 0)), ((0, 1), (2, 1), ("ahead", "a", 0))):
            for want in ("back", "behind"):
                self.assertIs(accepts(("lacks", PATH.plain, want), (line,)), False)
        for want in ("code", "hand"):
            self.assertIs(accepts(("lacks", PATH.plain, want), (((0, 1), (2, 1), ("word", "a")),)), False)

    def test_only_the_last_line_has_to_part(self):
        claim, extra = ("lacks", FOUR.plain, "code"), ((0, 1), (3, 2), ("word", "a"))
        self.assertIs(accepts(claim, CODE_PAPER + (extra,)), False)
        self.assertIs(accepts(claim, CODE_PAPER[:2]), False)
        self.assertIs(accepts(claim, CODE_PAPER[:2] + (extra,) + CODE_PAPER[2:]), True)

    def test_each_line_has_to_be_right(self):
        claim = ("lacks", FOUR.plain, "code")
        for wrong in (((0, 1), (3, 2), ("word", "b")), ((0, 4), (3, 2), ("word", "a")), ((0, 1), (3, 2), ("turn", 5)),
                      ((0, 1), (3, 2)), ((0, 1), (3, 2), ()), ((0, 1), (3, 2), "word"), None, ()):
            self.assertIs(accepts(claim, CODE_PAPER[:2] + (wrong,) + CODE_PAPER[2:]), False)

    def test_lines_ahead_alone(self):
        claim = ("lacks", FOUR.plain, "code")
        for chain in (("chain", 0, 2), ("chain", 2, 1), ("chain", -3, 1), ("chain", 0, -2), ("chain", 1, 0),
                      ("chain", 0, 3), ("chain", 0, 10 ** 39), ("chain", 0), ("chain", 0, 1, 1), ("chain", "0", "1")):
            self.assertIs(accepts(claim, CODE_PAPER[:2] + (((3, 2), (3, 0), chain),)), False)
        for turn in (("turn", 1), ("turn", 2), ("turn", 3), ("turn", -4), ("turn",), ("turn", 0, 0), ("turn", "0")):
            self.assertIs(accepts(claim, replaced(TURNED_PAPER, (2, 2), turn)), False)

    def test_words_of_200_marks_and_more(self):
        claim = ("lacks", PATH.plain, "back")
        for many, right in ((1, True), (2, True), (199, True), (200, True), (201, False), (4000, False)):
            word = "a" * many
            line = ((0, many % 2), (2, many % 2), ("word", word))
            self.assertIs(accepts(claim, (line,)), right)
        self.assertIs(accepts(claim, (((0, 0), (2, 2), ("word", "")),)), False)

    def test_20000_lines_and_more(self):
        claim = ("lacks", FOUR.plain, "code")
        more = (((0, 0), (2, 2), ("word", "aa" * 100)),) * 19997
        last = ((3, 2), (3, 0), ("chain", 19997, 19998))
        self.assertFalse(shows(claim, more[:3]))
        more = (((0, 0), (0, 0), ("word", "aa" * 100)),) * 19997
        begun = time.monotonic()
        self.assertIs(accepts(claim, more + CODE_PAPER[:2] + (last,)), True)
        self.assertIs(accepts(claim, more + CODE_PAPER[:2] + (((3, 2), (3, 0), ("chain", 19997, 19997)),)), False)
        self.assertLess(time.monotonic() - begun, 8)
        self.assertIs(accepts(claim, more + CODE_PAPER[:1] + CODE_PAPER[:2] + (((3, 2), (3, 0),
                                                                                ("chain", 19998, 19999)),)),
                      False)
        self.assertIs(accepts(claim, ()), False)

    def test_drawn_papers_show_only_what_is_true(self):
        source = random.Random(29)
        webs = [web for web in small_webs() if web.houses == 3][::6] + [web for _, web in EACH_WAY]
        many = 0
        for web, want in itertools.product(webs, WANTS):
            for _ in range(12):
                paper = drawn_paper(source, web, want)
                right = shows(("lacks", web.plain, want), paper)
                many += right
                self.assertIs(accepts(("lacks", web.plain, want), paper), right)
                self.assertFalse(right and wanted(web, want))
        self.assertGreater(many, 20)


def drawn_paper(source, web, want):
    """Some lines, most of them right, up to a last one that may be right as well."""
    steps, lines = steps_of(web), []
    pairs = list(itertools.product(range(web.houses), repeat=2))
    parted = [(p, q) for p, q in itertools.permutations(pairs, 2)
              if (p[1] == q[1] if want in ("back", "behind") else p[0] == q[0])]
    for _ in range(40):
        pair, other = source.choice(parted) if source.random() < .3 else source.sample(pairs, 2)
        at = len(lines)
        reason = source.choice((
            ("word", "".join(source.choices(web.marks, k=source.choice((1, 2, 3))))),
            ("turn", source.randrange(at + 1)), ("chain", source.randrange(at + 1), source.randrange(at + 1)),
            ("ahead", source.choice(web.marks), source.randrange(at + 1)),
            ("after", source.choice(web.marks), source.randrange(at + 1)),
        ))
        line = fitted(source, steps, lines, pair, other, reason)
        if line is not None and (is_right(steps, want, lines + [line], at) or source.random() < .01):
            lines.append(line)
            if (line[0], line[1]) in parted:
                break
    return tuple(lines) or (((0, 0), (0, 1), ("word", "a")),)


def fitted(source, steps, lines, pair, other, reason):
    """A line with this reason, and with pairs that fit it if there are such."""
    if reason[0] == "word":
        ends = [(x, end(steps, x, reason[1])) for x in {x for x, _ in steps}]
        ends = [one for one in ends if one[1] is not None]
        return (source.choice(ends), source.choice(ends), reason) if ends else None
    if max(part for part in reason if isinstance(part, int)) >= len(lines):
        return None
    if reason[0] == "turn":
        return (lines[reason[1]][1], lines[reason[1]][0], reason)
    if reason[0] == "chain":
        return (lines[reason[1]][0], lines[reason[2]][1], reason)
    mark, (one, two, _) = reason[1], lines[reason[2]]
    if reason[0] == "ahead":
        first = [z for (z, m), x in steps.items() if (m, x) == (mark, one[0])]
        second = [w for (w, m), u in steps.items() if (m, u) == (mark, two[0])]
        if first and second:
            return ((source.choice(first), one[1]), (source.choice(second), two[1]), reason)
        return (pair, other, reason)
    if (one[1], mark) in steps and (two[1], mark) in steps:
        return ((one[0], steps[one[1], mark]), (two[0], steps[two[1], mark]), reason)
    return (pair, other, reason)


class AnyTest(Case):
    def test_values_of_all_kinds_as_claims_and_as_papers(self):
        values = ODD + NUMBERS + ("", "a", "has", PATH, PATH.plain, (), ((),), (((),),), ("has",),
                                  ("lacks", PATH.plain))
        good = [value for row in GOOD for value in row]
        for claim, paper in itertools.product(values, values + tuple(good)):
            self.assertIs(accepts(claim, paper), False)
        for claim, paper in itertools.product(good, values):
            self.assertIs(accepts(claim, paper), False)

    def test_papers_for_other_claims(self):
        for (claim, _), (_, paper) in itertools.product(GOOD, repeat=2):
            try:
                right = shows(claim, paper)
            except (ValueError, TypeError, IndexError, KeyError):
                right = False
            self.assertIs(accepts(claim, paper), right)

    def test_nothing_given_is_changed(self):
        for claim, paper in GOOD:
            before = repr((claim, paper))
            self.assertEqual([accepts(claim, paper), accepts(claim, paper)], [True, True])
            self.assertEqual(repr((claim, paper)), before)
        paper = [[0, 1], [1, 0]]
        accepts(("has", "0 a 1 a", "code"), paper)
        self.assertEqual(paper, [[0, 1], [1, 0]])


if __name__ == "__main__":
    unittest.main()
