"""count and sure, held against all books listed and asked one by one, and against first and after."""
import unittest

import oracle
from boundagain.books import count, first, sure
from test_books_that_agree import chain
from test_texts import FINDINGS, NO_FINDINGS, NO_TEXTS

OF_FOUR = ("2a > 3b", "1a > 1b", "4b | 1b", "3b ^", "4 = 2", "3 = 0", "4 < 1", "3 ~ 2", "o 1 3", "o 1 2 4", "o 1 2 3 4",
           "h 2b", "h 1a 3b 4a", "h 1a 1b 2a 2b 3a 3b 4a 4b")

LINE_FEEDS = ["\n", "1 < 2\n", "1 < 2\n\n", "\n1 < 2", "1 <\n2", "1\n< 2", "1 < 2\n1 < 2", "3\n", "3\n1 < 2\n"]

# Texts of three leaves in which each kind of finding is certain once, possible once and out of the question once.
OF_THREE = ([], ["1 < 2", "2 < 3", "1a ^", "2a ^", "3a ^"], ["1 = 3", "2 = 0"], ["! 1 ~ 2", "! 1 ~ 3", "! 2 ~ 3"],
            ["1b > 2a", "! o 2 3"], ["o 1 3", "1 ~ 3", "3b ^"], ["1a | 2a", "1 < 2", "2 < 3"], ["h 1a 2b", "1 < 2"],
            ["1 = 2", "! 1 ~ 3", "! h 1a"], ["2 < 1", "3 < 2", "! 1a ^", "! 2a ^", "! 3a ^"])


def with_not(findings):
    return list(findings) + ["! " + finding for finding in findings]


class Count(unittest.TestCase):
    def check(self, n, findings):
        self.assertEqual(count(oracle.text_of(n, findings)), [len(oracle.agreeing(n, findings))], (n, findings))

    def test_no_findings(self):
        for n, many in ((1, 2), (2, 24), (3, 432), (4, 10752)):
            self.assertEqual(count(oracle.text_of(n, [])), [many])

    def test_each_finding_of_up_to_three_leaves(self):
        for n in (1, 2, 3):
            for finding in oracle.all_findings(n):
                self.check(n, [finding])

    def test_findings_of_four_leaves(self):
        for finding in with_not(OF_FOUR) + oracle.all_findings(4)[::13]:
            self.check(4, [finding])

    def test_two_findings_of_two_leaves(self):
        for one in oracle.all_findings(2):
            for other in oracle.all_findings(2)[::3]:
                self.check(2, [one, other])

    def test_several_findings(self):
        for n, times in ((1, 60), (2, 200), (3, 400), (4, 100)):
            for findings in oracle.drawn_texts(700 + n, n, 6, times):
                self.check(n, findings)

    def test_as_many_as_first_and_after_tell(self):
        for n, times in ((1, 20), (2, 60), (3, 60), (4, 4)):
            for findings in oracle.drawn_texts(710 + n, n, 4, times):
                t = oracle.text_of(n, findings)
                self.assertEqual(count(t), [len(chain(t))], findings)

    def test_no_book_agrees(self):
        for n in (1, 2, 3, 4):
            for findings in (["1a ^", "1b ^"], ["1 = 0", "! 1 = 0"], ["! 1a > 1b", "! 1b > 1a"], ["! h 1a", "h 1a"]):
                self.assertEqual(count(oracle.text_of(n, findings)), [0])

    def test_a_finding_twice(self):
        for finding in with_not(["1a > 2a", "1 = 2", "o 1 2", "h 1a"]):
            self.check(3, [finding, finding])

    def test_sixty_four_findings(self):
        for n in (1, 2, 3, 4):
            findings = [f for f in oracle.all_findings(n) if oracle.holds(f, oracle.look_at(oracle.all_books(n)[-1]))]
            self.check(n, (findings * 64)[:64])
            self.check(n, (findings * 64)[:63] + ["1a ^"])

    def test_refusals(self):
        for text in NO_TEXTS + ["2\n1 < 3\n", "2\n1 < 2", "2\n" + "1 < 2\n" * 65]:
            self.assertEqual(count(oracle.to_bytes(text)), [-6], text)
        for size, told in ((8192, [-6]), (8193, [-2]), (8400, [-2]), (16384, [-2])):
            for t in ([32] * size, [10] * size, oracle.to_bytes("2\n" + "1 < 2\n" * size)[:size]):
                self.assertEqual(count(t), told)


class Sure(unittest.TestCase):
    def check(self, n, findings, f):
        told = oracle.certainty(n, findings, f)
        self.assertEqual(sure(oracle.text_of(n, findings), oracle.to_bytes(f)), [told], (n, findings, f))
        return told

    def test_each_finding_of_each_finding_of_one_and_two_leaves(self):
        for n in (1, 2):
            for finding in oracle.all_findings(n):
                for f in oracle.all_findings(n):
                    self.check(n, [finding], f)

    def test_each_finding_of_three_leaves(self):
        for findings in OF_THREE:
            for f in oracle.all_findings(3):
                self.check(3, findings, f)

    def test_each_kind_is_told_certain_possible_and_out_of_the_question(self):
        for kind in oracle.plain_findings(3).values():
            for fs in (kind, ["! " + f for f in kind]):
                told = {self.check(3, findings, f) for findings in OF_THREE for f in fs}
                self.assertEqual(told, {0, 1, 2}, fs[0])

    def test_several_findings(self):
        for n, times in ((1, 30), (2, 60), (3, 150)):
            for findings in oracle.drawn_texts(720 + n, n, 5, times):
                for f in oracle.all_findings(n)[len(findings)::7]:
                    self.check(n, findings, f)

    def test_four_leaves(self):
        seen = set()
        for findings in oracle.drawn_texts(730, 4, 5, 12) + [["1b > 2a", "2b > 3a", "3b > 4a"], ["1 = 3", "2 = 4"]]:
            for f in with_not(OF_FOUR):
                seen.add(self.check(4, findings, f))
        self.assertEqual(seen, {-5, 0, 1, 2})

    def test_no_findings(self):
        for n in (1, 2, 3):
            for f in oracle.all_findings(n):
                self.check(n, [], f)
        for f in with_not(OF_FOUR):
            self.check(4, [], f)

    def test_a_finding_of_the_text_itself(self):
        for n, times in ((1, 20), (2, 40), (3, 40), (4, 4)):
            for findings in oracle.drawn_texts(740 + n, n, 3, times):
                if oracle.agreeing(n, findings):
                    for f in findings:
                        other = f[2:] if f.startswith("! ") else "! " + f
                        self.assertEqual(self.check(n, findings, f), 2)
                        self.assertEqual(self.check(n, findings, other), 0)

    def test_what_holds_of_every_book_and_of_none(self):
        for n, line in ((1, "1 = 0"), (1, "h 1a"), (2, "o 1 2"), (2, "h 1a 1b 2a 2b"), (3, "o 1 2 3"), (4, "o 1 2 3 4"),
                        (4, "h 1a 1b 2a 2b 3a 3b 4a 4b")):
            for findings in ([], ["1a ^"]):
                self.assertEqual(self.check(n, findings, line), 2)
                self.assertEqual(self.check(n, findings, "! " + line), 0)

    def test_no_book_agrees(self):
        for n in (1, 2, 3):
            for findings in (["1a ^", "1b ^"], ["1 = 0", "! 1 = 0"]):
                for f in oracle.all_findings(n):
                    self.assertEqual(self.check(n, findings, f), -5)
        self.assertEqual(self.check(4, ["1 < 2", "2 < 1"], "1 < 2"), -5)

    def test_by_hand(self):
        for text, f, told in (("2\n1b > 2a\n", "1 < 2", 2), ("2\n1b > 2a\n", "1a ^", 2), ("2\n1b > 2a\n", "2 < 1", 0),
                              ("2\n1b > 2a\n", "1 = 2", 1), ("2\n1b > 2a\n", "! 1 = 2", 1), ("2\n", "1 < 2", 1),
                              ("3\n1 = 3\n", "1 ~ 3", 2), ("3\n1 = 3\n", "1 = 0", 0), ("3\n1 = 3\n", "! 1 = 2", 2),
                              ("3\n1 = 3\n", "o 1 3", 1), ("1\n", "1 = 0", 2), ("1\n", "1a > 1b", 1),
                              ("1\n", "! h 1a", 0)):
            self.assertEqual(sure(oracle.to_bytes(text), oracle.to_bytes(f)), [told], (text, f))


class RefusalsOfSure(unittest.TestCase):
    """-2 first, then -6, then -3, then -5, each its number alone."""

    good = oracle.to_bytes("2\n1 < 2\n")
    none = oracle.to_bytes("2\n1 < 2\n2 < 1\n")
    bad = oracle.to_bytes("2\n1 < 3\n")
    line = oracle.to_bytes("1 < 2")

    def test_long_texts(self):
        for size, told in ((8192, [-6]), (8193, [-2]), (8400, [-2]), (16384, [-2])):
            for t in ([32] * size, [49] * size, self.good + [10] * (size - len(self.good))):
                self.assertEqual(sure(t, self.line), told)
                self.assertEqual(sure(t, []), told)

    def test_long_lines(self):
        for size, told in ((8192, [-3]), (8193, [-2]), (8400, [-2]), (16384, [-2])):
            for f in ([49] * size, [32] * size, self.line + [32] * (size - len(self.line)),
                      oracle.to_bytes("o 1 2" + " 2" * size)[:size], oracle.to_bytes("! " * size)[:size]):
                self.assertEqual(sure(self.good, f), told)
                self.assertEqual(sure(self.none, f), told)

    def test_a_long_line_is_told_before_a_wrong_text(self):
        for t in (self.bad, [], [32] * 8192, [32] * 8193):
            self.assertEqual(sure(t, [32] * 8193), [-2])
        self.assertEqual(sure(self.bad, [32] * 8192), [-6])

    def test_a_wrong_text(self):
        for text in NO_TEXTS + ["2\n1 < 3\n", "2\n1 < 2"]:
            for f in ("1 < 2", "1a ^", "", "1 < 3", "! !"):
                self.assertEqual(sure(oracle.to_bytes(text), oracle.to_bytes(f)), [-6], (text, f))

    def test_a_wrong_line(self):
        for text in ("3\n", "3\n1 < 2\n", "3\n1 < 2\n2 < 1\n"):
            for f in NO_FINDINGS + LINE_FEEDS + ["3"]:
                self.assertEqual(sure(oracle.to_bytes(text), oracle.to_bytes(f)), [-3], (text, f))

    def test_lines_of_three_leaves(self):
        for f in with_not(FINDINGS):
            self.assertGreaterEqual(sure(oracle.to_bytes("3\n"), oracle.to_bytes(f))[0], 0, f)
            self.assertEqual(sure(oracle.to_bytes("3\n1a ^\n1b ^\n"), oracle.to_bytes(f)), [-5], f)

    def test_a_leaf_above_n(self):
        for f in FINDINGS:
            for line in (f, "! " + f):
                told = sure(oracle.to_bytes("2\n"), oracle.to_bytes(line))
                self.assertEqual(told == [-3], "3" in f, line)

    def test_one_leaf_has_no_rows_and_no_pairs(self):
        for f in ("o 1", "o 1 2", "o 1 1", "1 < 1", "1 < 2", "1 = 1", "1 = 2", "1 ~ 1", "1 ~ 2", "1a | 1b", "1a | 2a"):
            for line in (f, "! " + f):
                self.assertEqual(sure(oracle.to_bytes("1\n"), oracle.to_bytes(line)), [-3], line)
                self.assertEqual(sure(oracle.to_bytes("1\n1a ^\n1b ^\n"), oracle.to_bytes(line)), [-3], line)

    def test_a_wrong_line_is_told_where_no_book_agrees(self):
        self.assertEqual(first(self.none), [0])
        self.assertEqual(sure(self.none, oracle.to_bytes("1 < 3")), [-3])
        self.assertEqual(sure(self.none, []), [-3])
        self.assertEqual(sure(self.none, self.line), [-5])


if __name__ == "__main__":
    unittest.main()
