"""Certificates: claims with papers that the checker accepts (point 15)."""

import itertools
import random
import time
import unittest

from tests.cases import Case
from tests.counting import EACH_WAY, FOUR, PATH, TURNING, WANTS, all_tied, behind_classes, board, large_webs
from tests.counting import linked_classes, random_web, ring, small_webs, star, table_from, turned_round, wanted
from tests.counting import wide_classes
from tests.test_checker import shows
from whichhouse.backwards import has_want
from whichhouse.certificates import certify
from whichhouse.checker import accepts
from whichhouse.webs import Web

CLASSES = {"code": linked_classes, "hand": wide_classes, "back": linked_classes, "behind": behind_classes}
OTHER = {"has": "lacks", "lacks": "has"}


def drawn_webs():
    """Webs of two to ten houses, with few and with many marks and ties."""
    source = random.Random(31)
    webs = [TURNING, PATH, FOUR, board(3, 3), all_tied(10), star(9, "ab")] + [web for _, web in EACH_WAY]
    for houses in range(2, 11):
        for more, letters in itertools.product((0, 0, 0, 1, 2, 4, 40), (2, 5, 12)):
            webs.append(random_web(source, houses, more, letters))
    return webs


class ExampleTest(Case):
    def test_the_examples_of_the_document(self):
        papers = [certify(PATH, "hand"), certify(FOUR, "code"), certify(PATH, "behind")]
        told = [papers[0][0], papers[1][0][0], papers[2][0][2]] + [accepts(claim, paper) for claim, paper in papers]
        self.assertEqual(told, [("has", "0 a 1 a\n1 b 2 a", "hand"), "lacks", "behind", True, True, True])


class CertifyTest(Case):
    def check(self, web, want, having):
        """Whether the claim is the true one, with a paper that is accepted, and that is none for the other claim."""
        claim, paper = certify(web, want)
        self.assertEqual(claim, ("has" if having else "lacks", web.plain, want))
        self.assertIs(accepts(claim, paper), True)
        self.assertIs(accepts((OTHER[claim[0]],) + claim[1:], paper), False)
        if not having:
            self.assertLessEqual(len(paper), 20000)
        return paper

    def test_small_webs_by_the_tests_own_counting(self):
        seen = {True: 0, False: 0}
        for web, want in itertools.product(small_webs(), WANTS):
            having = wanted(web, want)
            seen[having] += 1
            with self.subTest(web.plain, want=want):
                paper = self.check(web, want, having)
                if having:
                    self.assertEqual(paper, table_from(web, CLASSES[want](web)))
                else:
                    self.assertTrue(shows(("lacks", web.plain, want), paper))
        self.assertGreater(min(seen.values()), 200)

    def test_webs_of_two_to_ten_houses(self):
        seen = {}
        for web, want in itertools.product(drawn_webs() + large_webs(), WANTS):
            having = has_want(web, want)
            seen[want, having] = seen.get((want, having), 0) + 1
            with self.subTest(web.plain, want=want):
                paper = self.check(web, want, having)
                if not having:
                    self.assertTrue(shows(("lacks", web.plain, want), paper))
        self.assertEqual(len(seen), 8)
        self.assertGreater(min(seen.values()), 30)

    def test_what_is_lacked_by_steps_alone(self):
        source, reasons = random.Random(37), {}
        for _ in range(3000):
            web = random_web(source, source.choice((8, 9, 10)), source.choice((0, 0, 1, 2)), source.randrange(3, 10))
            for plainly, want, reason in (("code", "hand", "ahead"), ("back", "behind", "after")):
                if has_want(web, plainly) and not has_want(web, want):
                    paper = self.check(web, want, False)
                    self.assertTrue(shows(("lacks", web.plain, want), paper))
                    self.assertIn(reason, [line[2][0] for line in paper])
                    reasons[reason] = reasons.get(reason, 0) + 1
        self.assertGreater(min(reasons.values()), 5)
        self.assertEqual(len(reasons), 2)

    def test_each_line_is_needed_for_the_last_one(self):
        for web, want in itertools.product(drawn_webs(), WANTS):
            (word, _, _), paper = certify(web, want)
            if word == "lacks":
                needed = {len(paper) - 1}
                for at in range(len(paper) - 1, -1, -1):
                    if at in needed:
                        needed |= {part for part in paper[at][2] if isinstance(part, int)}
                self.assertEqual(needed, set(range(len(paper))))

    def test_kinds_of_values(self):
        for web, want in ((PATH, "code"), (FOUR, "code"), (PATH, "back")):
            told = certify(web, want)
            self.assertEqual([type(told), len(told), type(told[0]), type(told[1])], [tuple, 2, tuple, tuple])
            self.assertEqual([type(part) for part in told[0]], [str, str, str])

    def test_equal_webs_have_equal_certificates(self):
        for web, want in itertools.product(small_webs()[::7] + large_webs()[::3], WANTS):
            self.assertEqual(certify(web, want), certify(turned_round(web), want))
            self.assertEqual(certify(want=want, web=web), certify(web, want))

    def test_nothing_given_is_changed(self):
        web = Web("2 a 1 b\n0 a 1 a")
        for want in WANTS:
            certify(web, want)
        self.assertEqual([web.text, web.plain], ["2 a 1 b\n0 a 1 a", PATH.plain])

    def test_an_answer_comes_soon(self):
        exchanged = Web(all_tied(10).plain.replace("0 a 1", "0 b 1").replace("0 b 2", "0 a 2"))
        for web, want in itertools.product((all_tied(10), exchanged, ring(10), star(9, "abc")), WANTS):
            begun = time.monotonic()
            certify(web, want)
            self.assertLess(time.monotonic() - begun, 3)


if __name__ == "__main__":
    unittest.main()
