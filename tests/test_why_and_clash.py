"""why and clash, held against every choice of findings, tried on all books listed."""
import random
import unittest

import oracle
from boundagain.books import clash, count, sure, why
from test_count_and_sure import LINE_FEEDS
from test_texts import NO_FINDINGS, NO_TEXTS

# Each of these rules out one of the eight ways in which leaves 1 and 2 may lie one directly behind the other.
EIGHT_WAYS = [f"! {one}{s} > {other}{t}" for one, other in (("1", "2"), ("2", "1")) for s in "ab" for t in "ab"]


class Held(unittest.TestCase):
    def check_why(self, n, findings, f):
        told = oracle.reason(n, findings, f)
        self.assertEqual(why(oracle.text_of(n, findings), oracle.to_bytes(f)), told, (n, findings, f))
        return told

    def check_clash(self, n, findings):
        told = oracle.contradiction(n, findings)
        self.assertEqual(clash(oracle.text_of(n, findings)), told, (n, findings))
        return told


class Why(Held):
    def test_each_finding_from_each_finding_of_one_and_two_leaves(self):
        for n in (1, 2):
            for finding in oracle.all_findings(n):
                for f in oracle.all_findings(n):
                    self.check_why(n, [finding], f)

    def test_each_finding_of_three_leaves(self):
        for findings in (["1 < 2", "2 < 3", "1a ^", "2a ^", "3a ^"], ["1b > 2a", "! o 2 3"],
                         ["1 = 3", "2 = 0", "1 < 2"], ["! 1 ~ 2", "! 1 ~ 3", "! 2 ~ 3"],
                         ["h 1a 2b", "1 < 2"], ["1a | 2a", "2a | 3a"]):
            for f in oracle.all_findings(3):
                self.check_why(3, findings, f)

    def test_several_findings(self):
        for n, times in ((1, 30), (2, 60), (3, 60)):
            for findings in oracle.drawn_texts(800 + n, n, 8, times):
                for f in oracle.all_findings(n)[len(findings)::19]:
                    self.check_why(n, findings, f)

    def test_what_is_certain_of_findings_true_of_a_book(self):
        sizes = set()
        source = random.Random(5)
        for n, times in ((1, 10), (2, 40), (3, 60)):
            for many in (1, 3, 5, 8):
                for findings in oracle.true_texts(810 + n, n, many, times):
                    certain = [f for f in oracle.all_findings(n) if oracle.certainty(n, findings, f) == 2]
                    for f in source.sample(certain, min(3, len(certain))):
                        sizes.add(self.check_why(n, findings, f)[0])
        self.assertLessEqual({0, 1, 2, 3, 4}, sizes)
        self.assertGreaterEqual(min(sizes), 0)

    def test_a_finding_of_the_text_itself(self):
        for n in (1, 2, 3):
            for findings in oracle.true_texts(820 + n, n, 6, 30):
                for f in findings:
                    self.assertLessEqual(self.check_why(n, findings, f)[0], 1)

    def test_by_hand(self):
        for text, f, told in (
                ("3\n1 < 2\n2 < 3\n", "1 < 3", [2, 1, 2]), ("3\n1 < 2\n1a ^\n2 < 3\n", "1 < 3", [2, 1, 3]),
                ("3\n1 < 2\n", "1 < 2", [1, 1]), ("3\n1a ^\n1 < 2\n", "! 2 < 1", [1, 2]),
                ("3\n1 < 2\n", "o 1 2 3", [0]), ("3\n", "! 1a > 2a", [-4]), ("3\n1 < 2\n", "1 < 3", [-4]),
                ("3\n1 = 2\n", "1 ~ 2", [1, 1]), ("3\n1 ~ 2\n2 ~ 3\n", "1 ~ 3", [2, 1, 2]),
                ("3\n1 = 3\n1 < 2\n2 < 3\n", "2 = 0", [1, 1]), ("3\no 1 2\no 2 3\n1 < 3\n", "1 < 2", [2, 2, 3]),
                ("2\n1a ^\n2a ^\n1 < 2\n", "1b > 2a", [3, 1, 2, 3]),
                ("3\n1a > 1b\n2a > 2b\n3 = 0\n1 < 2\no 1 2\n", "1b > 2a", [4, 1, 2, 4, 5]),
                ("2\n1a > 2a\n", "1 < 2", [1, 1]), ("2\n1a | 2a\n1 < 2\n", "1a > 2a", [2, 1, 2]),
                ("2\n1 < 2\n2 < 1\n", "1 < 2", [-5]), ("1\n", "1 = 0", [0]), ("1\n1a ^\n", "1a > 1b", [1, 1])):
            self.assertEqual(why(oracle.to_bytes(text), oracle.to_bytes(f)), told, (text, f))

    def test_two_rows_that_would_both_do(self):
        for text, f, told in (
                ("3\n2 < 3\n1 < 3\n1 < 2\n1 < 2\n2 < 3\n", "1 < 3", [1, 2]),
                ("3\n2 < 3\n1 < 2\n1 < 2\n2 < 3\n", "1 < 3", [2, 1, 2]),
                ("3\n1 < 2\n1a ^\n1 < 2\n2 < 3\n2 < 3\n", "1 < 3", [2, 1, 4]),
                ("3\n1a ^\n! 1b ^\n1a > 1b\n", "1a ^", [1, 1]), ("3\n2a ^\n! 1b ^\n1a > 1b\n", "1a ^", [1, 2]),
                # A short row that begins late comes before a longer one that begins early.
                ("3\n1 ~ 2\n2 ~ 3\n1 = 3\n", "1 ~ 3", [1, 3]),
                # The rows 1 4 and 2 3 would both do, and no other pair: the lower first number decides.
                ("3\n1a > 1b\n2a | 3b\n1 < 2\n1b | 3a\n", "1 < 3", [2, 1, 4]),
                ("3\n2a | 3b\n1a > 1b\n1b | 3a\n1 < 2\n", "1 < 3", [2, 1, 4])):
            self.assertEqual(why(oracle.to_bytes(text), oracle.to_bytes(f)), told, (text, f))
            lines = text[:-1].split("\n")
            self.check_why(int(lines[0]), lines[1:], f)

    def test_the_same_finding_twice(self):
        for n, times in ((1, 10), (2, 20), (3, 20)):
            for findings in oracle.true_texts(830 + n, n, 4, times):
                for f in oracle.all_findings(n)[::23]:
                    once = self.check_why(n, findings, f)
                    self.assertEqual(self.check_why(n, findings + findings, f), once)
                    self.check_why(n, [finding for finding in findings for _ in "ab"], f)

    def test_no_findings(self):
        for n in (1, 2, 3):
            for f in oracle.all_findings(n):
                told = self.check_why(n, [], f)
                self.assertEqual(told, [0] if oracle.holding(n, f) == oracle.every_book(n) else [-4], f)

    def test_what_holds_of_every_book(self):
        for n, f in ((1, "1 = 0"), (1, "h 1a"), (1, "h 1b"), (2, "o 1 2"), (2, "h 1a 1b 2a 2b"), (3, "o 1 2 3")):
            for findings in ([], [f], ["1a ^"], [f, f, "1a ^"]):
                self.assertEqual(self.check_why(n, findings, f), [0])

    def test_all_of_eight_and_nearly_all(self):
        self.assertEqual(self.check_why(3, EIGHT_WAYS, "! o 1 2"), [8, 1, 2, 3, 4, 5, 6, 7, 8])
        self.assertEqual(self.check_why(3, EIGHT_WAYS[::-1], "! o 1 2"), [8, 1, 2, 3, 4, 5, 6, 7, 8])
        self.assertEqual(self.check_why(3, EIGHT_WAYS[:7], "! o 1 2"), [-4])
        for k, way in enumerate(EIGHT_WAYS):
            others = EIGHT_WAYS[:k] + EIGHT_WAYS[k + 1:]
            self.assertEqual(self.check_why(2, others, way[2:]), [7, 1, 2, 3, 4, 5, 6, 7])
            eight = others[:3] + ["1 = 2"] + others[3:]
            self.assertEqual(self.check_why(2, eight, way[2:]), [7, 1, 2, 3, 5, 6, 7, 8])


class Clash(Held):
    def test_each_finding(self):
        for n in (1, 2, 3):
            for finding in oracle.all_findings(n):
                told = self.check_clash(n, [finding])
                self.assertEqual(told, [0] if oracle.holding(n, finding) else [1, 1])

    def test_two_findings(self):
        for n in (1, 2):
            for one in oracle.all_findings(n):
                for other in oracle.all_findings(n):
                    self.check_clash(n, [one, other])

    def test_several_findings(self):
        sizes = set()
        for n, most, times in ((1, 8, 60), (2, 8, 300), (3, 8, 300), (3, 4, 100)):
            for findings in oracle.drawn_texts(840 + n, n, most, times):
                sizes.add(self.check_clash(n, findings)[0])
        self.assertLessEqual({0, 1, 2, 3, 4}, sizes)

    def test_none_that_clash(self):
        for n in (1, 2, 3):
            self.assertEqual(clash(oracle.text_of(n, [])), [0])
            for findings in oracle.true_texts(850 + n, n, 8, 40):
                self.assertEqual(self.check_clash(n, findings), [0])

    def test_by_hand(self):
        for text, told in (
                ("1\n", [0]), ("1\n1a ^\n", [0]), ("1\n! 1 = 0\n", [1, 1]), ("1\n1a ^\n1b ^\n", [2, 1, 2]),
                ("1\n1a ^\n! h 1a\n1b ^\n", [1, 2]), ("2\n1 < 2\n2 < 1\n", [2, 1, 2]), ("3\n! o 1 2 3\n", [1, 1]),
                ("3\n1 < 2\n2 < 3\n3 < 1\n", [3, 1, 2, 3]), ("3\n1a ^\n1 < 2\n2 < 3\n2a ^\n3 < 1\n", [3, 2, 3, 5]),
                ("3\n1 = 2\n2 = 3\n", [2, 1, 2]), ("3\n1 ~ 2\n2 ~ 3\n! 1 ~ 3\n", [3, 1, 2, 3]),
                ("3\n1 < 2\n2 < 3\n! 1 < 3\n2 < 1\n", [2, 1, 4]), ("3\n1 = 2\n1 = 0\n", [2, 1, 2]),
                ("3\n1 < 2\n1 < 2\n2 < 1\n2 < 1\n", [2, 1, 3]), ("3\n1 = 2\n2 = 3\n! o 1 2 3\n", [1, 3]),
                ("3\n1 < 2\n2 < 3\n3 < 1\n1a ^\n1b ^\n", [2, 4, 5])):
            self.assertEqual(clash(oracle.to_bytes(text)), told, text)
            lines = text[:-1].split("\n")
            self.check_clash(int(lines[0]), lines[1:])

    def test_two_rows_that_clash(self):
        self.assertEqual(self.check_clash(3, ["1a ^", "1 < 2", "2 < 1", "1b ^"]), [2, 1, 4])
        self.assertEqual(self.check_clash(3, ["1 < 2", "1a ^", "1b ^", "2 < 1"]), [2, 1, 4])
        self.assertEqual(self.check_clash(3, ["1 < 2", "1a ^", "2 < 1", "1b ^"]), [2, 1, 3])
        self.assertEqual(self.check_clash(3, ["1 = 0", "1a ^", "1b ^", "2 = 0", "! 2 = 0"]), [2, 2, 3])

    def test_the_same_finding_twice(self):
        for n in (1, 2, 3):
            for findings in oracle.drawn_texts(860 + n, n, 4, 40):
                once = self.check_clash(n, findings)
                self.assertEqual(self.check_clash(n, findings + findings), once)
                self.check_clash(n, [finding for finding in findings for _ in "ab"])

    def test_all_of_eight_and_nearly_all(self):
        self.assertEqual(self.check_clash(2, EIGHT_WAYS), [8, 1, 2, 3, 4, 5, 6, 7, 8])
        self.assertEqual(self.check_clash(2, EIGHT_WAYS[::-1]), [8, 1, 2, 3, 4, 5, 6, 7, 8])
        self.assertEqual(self.check_clash(3, EIGHT_WAYS), [0])
        self.assertEqual(self.check_clash(3, EIGHT_WAYS[:7] + ["o 1 2"]), [0])
        for k, way in enumerate(EIGHT_WAYS):
            others = EIGHT_WAYS[:k] + EIGHT_WAYS[k + 1:]
            self.assertEqual(self.check_clash(2, others), [0])
            self.assertEqual(self.check_clash(2, others + ["! " + way[2:]]), [8, 1, 2, 3, 4, 5, 6, 7, 8])
            self.assertEqual(self.check_clash(2, others + [way[2:]]), [0])
        seven = ["! 1a > 2a", "! 1a > 2b", "! 1b > 2a", "1a ^", "! 2 < 1", "1 < 2", "! 1b > 2b"]
        self.check_clash(2, seven)


class Refusals(unittest.TestCase):
    """-2 first, then -6; of why then -3, then -5, then -4; each its number alone."""

    good = oracle.to_bytes("2\n1 < 2\n")
    none = oracle.to_bytes("2\n1 < 2\n2 < 1\n")
    bad = oracle.to_bytes("2\n1 < 3\n")
    line = oracle.to_bytes("1 < 2")
    open_line = oracle.to_bytes("1 = 2")

    def test_each_by_itself(self):
        self.assertEqual(why([32] * 8193, self.line), [-2])
        self.assertEqual(why(self.good, [32] * 8193), [-2])
        self.assertEqual(why(self.bad, self.line), [-6])
        self.assertEqual(why(self.good, oracle.to_bytes("1 < 3")), [-3])
        self.assertEqual(why(self.none, self.line), [-5])
        self.assertEqual(why(self.good, self.open_line), [-4])
        self.assertEqual(clash([32] * 8193), [-2])
        self.assertEqual(clash(self.bad), [-6])

    def test_long_texts(self):
        for size, told in ((8192, [-6]), (8193, [-2]), (8400, [-2]), (16384, [-2])):
            for t in ([32] * size, [49] * size, self.good + [10] * (size - len(self.good))):
                self.assertEqual(clash(t), told)
                for f in (self.line, self.open_line, []):
                    self.assertEqual(why(t, f), told)

    def test_long_lines(self):
        for size, told in ((8192, [-3]), (8193, [-2]), (8400, [-2]), (16384, [-2])):
            for f in ([49] * size, [32] * size, self.line + [32] * (size - len(self.line))):
                self.assertEqual(why(self.good, f), told)
                self.assertEqual(why(self.none, f), told)

    def test_a_long_line_is_told_before_a_wrong_text(self):
        for t in (self.bad, [], [32] * 8192, [32] * 8193):
            self.assertEqual(why(t, [32] * 8193), [-2])
        self.assertEqual(why(self.bad, [32] * 8192), [-6])

    def test_a_wrong_text_is_told_before_a_wrong_line(self):
        for text in NO_TEXTS + ["2\n1 < 3\n", "2\n1 < 2", "2\n" + "1 < 2\n" * 65]:
            t = oracle.to_bytes(text)
            self.assertEqual(clash(t), [-6], text)
            for f in ("1 < 2", "1a ^", "", "1 < 3", "! !"):
                self.assertEqual(why(t, oracle.to_bytes(f)), [-6], (text, f))

    def test_a_wrong_line_is_told_where_no_book_agrees(self):
        for text in ("3\n", "3\n1 < 2\n", "3\n1 < 2\n2 < 1\n"):
            for f in NO_FINDINGS + LINE_FEEDS:
                self.assertEqual(why(oracle.to_bytes(text), oracle.to_bytes(f)), [-3], (text, f))

    def test_that_no_book_agrees_is_told_before_that_it_is_not_certain(self):
        for n in (1, 2, 3):
            t = oracle.text_of(n, ["1a ^", "1b ^"])
            for f in oracle.all_findings(n)[::5]:
                self.assertEqual(why(t, oracle.to_bytes(f)), [-5], f)

    def test_not_certain(self):
        for n, times in ((1, 10), (2, 30), (3, 30)):
            for findings in oracle.true_texts(870 + n, n, 3, times):
                t = oracle.text_of(n, findings)
                for f in oracle.all_findings(n)[::11]:
                    told = why(t, oracle.to_bytes(f))
                    self.assertEqual(told == [-4], sure(t, oracle.to_bytes(f)) != [2], (findings, f))

    def test_clash_tells_0_just_where_some_book_agrees(self):
        for n, times in ((1, 30), (2, 60), (3, 60)):
            for findings in oracle.drawn_texts(880 + n, n, 8, times):
                t = oracle.text_of(n, findings)
                self.assertEqual(clash(t) == [0], count(t) != [0], findings)


if __name__ == "__main__":
    unittest.main()
