"""first and after, held against all books listed and asked one by one."""
import random
import unittest

import oracle
from boundagain.books import after, first


def chain(t):
    """The first book, and the next one behind each, until there is none."""
    found = []
    told = first(t)
    while told != [0]:
        found.append(oracle.to_text(told[1:]))
        told = after(t, told[1:])
    return found


class Chains(unittest.TestCase):
    def check(self, n, findings):
        self.assertEqual(chain(oracle.text_of(n, findings)), oracle.agreeing(n, findings), (n, findings))

    def test_no_findings(self):
        for n in (1, 2, 3, 4):
            self.check(n, [])

    def test_each_finding_of_up_to_three_leaves(self):
        for n in (1, 2, 3):
            for finding in oracle.all_findings(n):
                self.check(n, [finding])

    def test_one_finding_of_each_kind_of_four_leaves(self):
        for finding in ("2a > 3b", "1a > 1b", "4b | 1b", "3b ^", "4 = 2", "3 = 0", "4 < 1", "3 ~ 2", "o 1 3",
                        "o 1 2 4", "o 1 2 3 4", "h 2b", "h 1a 3b 4a", "h 1a 1b 2a 2b 3a 3b 4a 4b"):
            self.check(4, [finding])
            self.check(4, ["! " + finding])

    def test_two_findings_of_two_leaves(self):
        for one in oracle.all_findings(2):
            for other in oracle.all_findings(2):
                self.check(2, [one, other])

    def test_several_findings(self):
        for n, times in ((1, 40), (2, 100), (3, 200), (4, 40)):
            for findings in oracle.drawn_texts(n, n, 6, times):
                self.check(n, findings)

    def test_a_finding_twice(self):
        for finding in ("1a > 2a", "! 1 = 2", "o 1 2", "h 1a"):
            self.check(3, [finding, finding])

    def test_sixty_four_findings(self):
        for n in (2, 3, 4):
            source = random.Random(n)
            book = source.choice(oracle.all_books(n))
            findings = oracle.all_findings(n)
            source.shuffle(findings)
            true = [finding for finding in findings if oracle.holds(finding, oracle.look_at(book))]
            rows = (true + true * 64)[:64]
            self.assertIn(book, chain(oracle.text_of(n, rows)))
            self.check(n, rows)


class FirstOfEachFinding(unittest.TestCase):
    def test_four_leaves(self):
        for finding in oracle.all_findings(4):
            told = next((book for book in oracle.all_books(4) if oracle.holds(finding, oracle.look_at(book))), None)
            self.assertEqual(first(oracle.text_of(4, [finding])), oracle.answer(told), finding)


class ByHand(unittest.TestCase):
    def check(self, text, book):
        self.assertEqual(first(oracle.to_bytes(text)), oracle.answer(book), text)

    def check_after(self, text, u, book):
        self.assertEqual(after(oracle.to_bytes(text), oracle.to_bytes(u)), oracle.answer(book), (text, u))

    def test_one_leaf(self):
        self.check("1\n", "1a")
        self.check("1\n1b ^\n", "1b")
        self.check("1\n! 1a ^\n", "1b")
        self.check("1\n1b > 1a\n", "1b")
        self.check("1\n1 = 0\nh 1a\n! h 1b\n", None)
        self.check("1\n! 1 = 0\n", None)
        self.check_after("1\n", "1a", "1b")
        self.check_after("1\n", "1b", None)
        self.check_after("1\n1a ^\n", "1a", None)

    def test_the_order_of_books(self):
        self.check("2\n", "(1a 2a)")
        self.check("2\n! 1 = 2\n", "1a / 2a")
        self.check("2\n1 = 0\n1 ~ 2\n", "1a 2a")
        self.check_after("2\n", "(2b 1b)", "1a / 2a")
        self.check_after("2\n", "1a / 2b", "1a 2a")
        self.check_after("2\n", "1b 2b", "2a / 1a")
        self.check_after("2\n", "2b 1b", None)
        self.check_after("3\n", "(1a 2a 3b)", "(1a 2a) / 3a")
        self.check_after("3\n", "(1a 2a) 3b", "(1a 2b 3a)")

    def test_backs_and_fronts_across_gatherings(self):
        self.check("2\n! 1 ~ 2\n1b > 2a\n", "1a / 2a")
        self.check("2\n! 1 ~ 2\n2a | 1b\n", "1a / 2a")
        self.check("2\n! 1 ~ 2\no 1 2\n", "1a / 2a")
        self.check("2\n! 1 ~ 2\n1b > 2a\nh 1b\n", None)
        self.check("2\n! 1 ~ 2\n1b > 2a\nh 1b 2a\n", "1a / 2a")

    def test_both_sides_of_one_leaf(self):
        self.check("2\n1a > 1b\n2b > 2a\n", "(1a 2b)")
        self.check("2\n1a > 1b\n1b > 1a\n", None)

    def test_one_gathering_and_several(self):
        self.check("4\n1 ~ 2\n2 ~ 3\n3 ~ 4\n", "(1a (2a 3a) 4a)")
        self.check("4\n! 1 ~ 2\n! 1 ~ 3\n! 1 ~ 4\n! 2 ~ 3\n! 2 ~ 4\n! 3 ~ 4\n", "1a / 2a / 3a / 4a")
        self.check("4\n! 1 ~ 2\n3 ~ 4\n! 2 ~ 3\n! 1 ~ 3\n", "(3a 4a) / 1a / 2a")
        self.check("4\n1 = 3\n2 = 4\n1 ~ 2\n", "(1a (2a 4a) 3a)")
        self.check("4\n1 = 3\n2 = 4\n1 < 2\n2 < 3\n3 < 4\n", None)


class After(unittest.TestCase):
    def check(self, n, findings, u, book):
        self.assertEqual(after(oracle.text_of(n, findings), oracle.to_bytes(u)), oracle.answer(book), (n, findings, u))

    def check_all(self, n, findings, every):
        """after of each book (or of each so many), whether it agrees or not."""
        fitting = set(oracle.agreeing(n, findings))
        behind = None
        for k, u in reversed(list(enumerate(oracle.all_books(n)))):
            if k % every == 0:
                self.check(n, findings, u, behind)
            if u in fitting:
                behind = u

    def test_behind_each_book(self):
        for n, times, every in ((1, 20, 1), (2, 60, 1), (3, 60, 5), (4, 20, 401)):
            for findings in oracle.drawn_texts(100 + n, n, 3, times):
                self.check_all(n, findings, every)

    def test_behind_the_last_book_of_all(self):
        for n in (1, 2, 3, 4):
            for findings in ([], ["1 = 0"], ["1a ^"], ["1 = 0", "! 1 = 0"]):
                self.check(n, findings, oracle.all_books(n)[-1], None)

    def test_where_no_book_agrees(self):
        for n in (1, 2, 3, 4):
            for u in oracle.all_books(n)[::97] + oracle.all_books(n)[-1:]:
                self.check(n, ["1a ^", "1b ^"], u, None)

    def test_behind_the_last_that_agrees(self):
        for findings in (["1 < 2"], ["1 = 2"], ["! 3 = 0", "3b ^"]):
            fitting = oracle.agreeing(3, findings)
            self.check(3, findings, fitting[-1], None)
            self.check(3, findings, fitting[-2], fitting[-1])


def drawn_book(source, n):
    order = source.sample(range(1, n + 1), n)
    gatherings = [""]
    depth = 0
    for left in range(n, 0, -1):
        signs = ["|"] * (depth < left) + ["("] * (depth + 2 <= left) + [")"] * (depth > 0)
        sign = source.choice(signs)
        depth += {"|": 0, "(": 1, ")": -1}[sign]
        gatherings[-1] += sign
        if depth == 0 and left > 1 and source.random() < 0.4:
            gatherings.append("")
    return oracle.make_book(order, [source.choice("ab") for _ in order], gatherings)


class ManyLeaves(unittest.TestCase):
    """More leaves than can be listed: numbers of two digits have their own place in the order."""

    def test_the_first_and_the_last(self):
        self.assertEqual(first(oracle.to_bytes("10\n")), oracle.answer("(10a (1a (2a (3a (4a 5a) 6a) 7a) 8a) 9a)"))
        self.assertEqual(first(oracle.to_bytes("9\n")), oracle.answer("(1a (2a (3a (4a 5a 6a) 7a) 8a) 9a)"))
        last = " ".join(str(k) + "b" for k in list(range(9, 0, -1)) + list(range(16, 9, -1)))
        self.assertEqual(after(oracle.to_bytes("16\n"), oracle.to_bytes(last)), [0])

    def test_nothing_between_a_book_and_the_next(self):
        source = random.Random(16)
        for n in (5, 9, 10, 11, 16):
            t = oracle.text_of(n, [])
            books = sorted(set(drawn_book(source, n) for _ in range(60)))
            for u, later in zip(books, books[1:]):
                told = oracle.to_text(after(t, oracle.to_bytes(u))[1:])
                self.assertLess(u, told)
                self.assertLessEqual(told, later)
                self.assertEqual(sorted(oracle.look_at(told).order), sorted(str(k) for k in range(1, n + 1)))


if __name__ == "__main__":
    unittest.main()
