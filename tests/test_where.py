"""where, held against all books listed and looked at one by one."""
import unittest

import oracle
from boundagain.books import count, where
from test_texts import NO_TEXTS

LARGEST = 2147483647

OF_FOUR = ("2a > 3b", "1a > 1b", "4b | 1b", "3b ^", "4 = 2", "3 = 0", "4 < 1", "3 ~ 2", "o 1 3", "o 1 2 4", "o 1 2 3 4",
           "h 2b", "h 1a 3b 4a", "h 1a 1b 2a 2b 3a 3b 4a 4b")


class Held(unittest.TestCase):
    def check(self, n, findings):
        t = oracle.text_of(n, findings)
        for leaf in range(1, n + 1):
            self.assertEqual(where(leaf, t), oracle.whereabouts(n, findings, leaf), (n, findings, leaf))


class Ordinary(Held):
    def test_each_finding_of_up_to_three_leaves(self):
        for n in (1, 2, 3):
            for finding in oracle.all_findings(n):
                self.check(n, [finding])

    def test_one_finding_of_each_kind_of_four_leaves(self):
        for finding in OF_FOUR:
            self.check(4, [finding])
            self.check(4, ["! " + finding])

    def test_two_findings_of_two_leaves(self):
        for one in oracle.all_findings(2):
            for other in oracle.all_findings(2)[::5]:
                self.check(2, [one, other])

    def test_several_findings(self):
        for n, times in ((1, 60), (2, 150), (3, 200), (4, 25)):
            for findings in oracle.drawn_texts(900 + n, n, 6, times):
                self.check(n, findings)

    def test_findings_true_of_a_book(self):
        for n, times in ((1, 20), (2, 80), (3, 100), (4, 8)):
            for many in (3, 8):
                for findings in oracle.true_texts(910 + n, n, many, times):
                    self.check(n, findings)

    def test_by_hand(self):
        for text, leaf, told in (
                ("1\n", 1, [1, 0, 1, 0, 2, 0, 1]), ("1\n1b ^\n", 1, [1, 0, 1, 0, 1, 1]),
                ("2\n", 1, [2, 0, 1, 2, 0, 2, 2, 0, 1]), ("2\n", 2, [2, 0, 1, 2, 0, 1, 2, 0, 1]),
                ("2\n1b > 2a\n", 1, [1, 0, 2, 0, 2, 1, 0]), ("2\n1b > 2a\n", 2, [1, 1, 2, 0, 1, 1, 0]),
                ("2\n1a > 2b\n1 = 2\n", 1, [1, 0, 1, 2, 1, 1]), ("2\n1a > 2b\n1 = 2\n", 2, [1, 1, 1, 1, 1, 1]),
                ("3\n1 = 3\n", 2, [3, 0, 1, 2, 1, 0, 2, 0, 1]), ("3\n1 = 3\n", 1, [3, 0, 1, 2, 1, 3, 2, 0, 1]),
                ("3\n1 < 2\n2 < 3\n", 2, [1, 1, 3, 0, 1, 3, 2, 0, 1]), ("3\n! o 1 3\n", 2, [1, 1, 3, 0, 1, 3, 2, 0, 1]),
                ("3\no 1 3\n", 2, [2, 0, 2, 3, 0, 1, 3, 2, 0, 1]),
                ("3\n! 1 = 0\n1a ^\n", 1, [3, 0, 1, 2, 2, 2, 3, 1, 0]),
                ("4\n1 = 4\n1 < 2\n2 < 3\n3 < 4\n", 3, [1, 2, 2, 0, 2, 2, 0, 1]),
                ("4\n", 3, [4, 0, 1, 2, 3, 4, 0, 1, 2, 4, 2, 0, 1])):
            self.assertEqual(where(leaf, oracle.to_bytes(text)), told, (text, leaf))


class Edges(Held):
    def test_no_findings(self):
        for n in (1, 2, 3, 4):
            self.check(n, [])
            for leaf in range(1, n + 1):
                partners = [number for number in range(n + 1) if number != leaf]
                told = [n] + list(range(n)) + [n] + partners + [2, 0, 1]
                self.assertEqual(where(leaf, oracle.text_of(n, [])), told)

    def test_which_leaves_there_are(self):
        for n in (1, 2, 3, 4):
            for findings in ([], ["1a ^"], ["1a ^", "1b ^"]):
                t = oracle.text_of(n, findings)
                self.assertNotEqual(where(n, t), [-4])
                for leaf in (0, n + 1, n + 2, 16, 17, 10 * n, 255, LARGEST):
                    self.assertEqual(where(leaf, t), [-4], (n, leaf))

    def test_one_book_alone_agrees(self):
        for n, findings, book in ((1, ["1b ^"], "1b"), (2, ["1b > 2a", "! 1 ~ 2"], "1a / 2a"),
                                  (3, ["1b > 3a", "3b > 2a", "1 = 2"], "(1a 3a 2a)"),
                                  (4, ["4a > 2a", "2b > 1b", "1a > 3a", "4 = 3", "2 = 1"], "(4b (2a 1b) 3a)")):
            self.assertEqual(oracle.agreeing(n, findings), [book])
            self.check(n, findings)
        t = oracle.text_of(4, ["4a > 2a", "2b > 1b", "1a > 3a", "4 = 3", "2 = 1"])
        self.assertEqual([where(leaf, t) for leaf in (1, 2, 3, 4)],
                         [[1, 2, 1, 2, 1, 1], [1, 1, 1, 1, 1, 0], [1, 3, 1, 4, 1, 0], [1, 0, 1, 3, 1, 1]])

    def test_no_book_agrees(self):
        for n in (1, 2, 3, 4):
            for findings in (["1a ^", "1b ^"], ["1 = 0", "! 1 = 0"]):
                t = oracle.text_of(n, findings)
                self.assertEqual(count(t), [0])
                for leaf in range(1, n + 1):
                    self.assertEqual(where(leaf, t), [-5])
                for leaf in (0, n + 1, LARGEST):
                    self.assertEqual(where(leaf, t), [-4])


class Refusals(unittest.TestCase):
    """-2 first, then -6, then -4, then -5, each its number alone."""

    good = oracle.to_bytes("2\n1 < 2\n")
    none = oracle.to_bytes("2\n1 < 2\n2 < 1\n")
    leaves = (0, 1, 2, 3, 16, LARGEST)

    def test_each_by_itself(self):
        self.assertEqual(where(1, [32] * 8193), [-2])
        self.assertEqual(where(1, oracle.to_bytes("2\n1 < 3\n")), [-6])
        self.assertEqual(where(3, self.good), [-4])
        self.assertEqual(where(1, self.none), [-5])

    def test_long_texts(self):
        for size, told in ((8192, [-6]), (8193, [-2]), (8400, [-2]), (16384, [-2])):
            for t in ([32] * size, [49] * size, self.good + [10] * (size - len(self.good))):
                for leaf in self.leaves:
                    self.assertEqual(where(leaf, t), told)

    def test_a_wrong_text_is_told_before_a_leaf_that_there_is_not(self):
        for text in NO_TEXTS + ["2\n1 < 3\n", "2\n1 < 2", "2\n" + "1 < 2\n" * 65]:
            for leaf in self.leaves:
                self.assertEqual(where(leaf, oracle.to_bytes(text)), [-6], (text, leaf))

    def test_a_leaf_that_there_is_not_is_told_before_that_no_book_agrees(self):
        self.assertEqual([where(leaf, self.none) for leaf in self.leaves], [[-4], [-5], [-5], [-4], [-4], [-4]])


if __name__ == "__main__":
    unittest.main()
