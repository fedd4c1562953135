"""nth and rank, held against all books listed and asked one by one, and against first and after."""
import bisect
import unittest

import oracle
from boundagain.books import after, first, nth, rank

LARGEST = 2147483647

OF_FOUR = ("2a > 3b", "1a > 1b", "4b | 1b", "3b ^", "4 = 2", "3 = 0", "4 < 1", "3 ~ 2", "o 1 3", "o 1 2 4", "o 1 2 3 4",
           "h 2b", "h 1a 3b 4a", "h 1a 1b 2a 2b 3a 3b 4a 4b")


def numbers_to_ask(many):
    """0, 1, one in the middle, the last, the one there is not, and the largest."""
    return sorted({0, 1, many // 2, max(many - 1, 0), many, many + 1, LARGEST})


def books_to_ask(n, findings):
    """Books that agree and books that don't: the first, some in the middle, the last."""
    books = oracle.all_books(n)
    fitting = oracle.agreeing(n, findings)
    others = sorted(set(books) - set(fitting))
    asked = {books[0], books[-1]}
    for row in (fitting, others):
        asked |= {row[k] for k in (0, len(row) // 3, len(row) // 2, len(row) - 1) if row}
    return sorted(asked)


class Held(unittest.TestCase):
    def check_nth(self, n, findings, numbers):
        t = oracle.text_of(n, findings)
        fitting = oracle.agreeing(n, findings)
        for k in numbers:
            told = oracle.answer(fitting[k]) if k < len(fitting) else [-4]
            self.assertEqual(nth(k, t), told, (n, findings, k))

    def check_rank(self, n, findings, books):
        t = oracle.text_of(n, findings)
        fitting = oracle.agreeing(n, findings)
        for u in books:
            before = bisect.bisect_left(fitting, u)
            self.assertEqual(rank(t, oracle.to_bytes(u)), [before], (n, findings, u))
            if u in fitting:
                self.assertEqual(nth(before, t), oracle.answer(u), (n, findings, u))

    def check(self, n, findings):
        self.check_nth(n, findings, numbers_to_ask(len(oracle.agreeing(n, findings))))
        self.check_rank(n, findings, books_to_ask(n, findings))

    def check_all(self, n, findings):
        self.check_nth(n, findings, list(range(len(oracle.all_books(n)) + 2)))
        self.check_rank(n, findings, oracle.all_books(n))


class Ordinary(Held):
    def test_each_finding_of_one_and_two_leaves_each_number_and_book(self):
        for n in (1, 2):
            for finding in oracle.all_findings(n):
                self.check_all(n, [finding])

    def test_each_finding_of_three_leaves(self):
        for finding in oracle.all_findings(3):
            self.check(3, [finding])

    def test_one_finding_of_each_kind_of_four_leaves(self):
        for finding in OF_FOUR:
            self.check(4, [finding])
            self.check(4, ["! " + finding])

    def test_several_findings(self):
        for n, times in ((1, 30), (2, 60), (3, 80), (4, 25)):
            for findings in oracle.drawn_texts(600 + n, n, 5, times):
                self.check(n, findings)

    def test_each_number_and_book_of_three_leaves(self):
        for findings in oracle.drawn_texts(610, 3, 3, 4):
            self.check_all(3, findings)

    def test_sixty_four_findings(self):
        for n in (2, 3, 4):
            book = oracle.all_books(n)[len(oracle.all_books(n)) // 3]
            true = [finding for finding in oracle.all_findings(n) if oracle.holds(finding, oracle.look_at(book))]
            findings = (true * 64)[::max(len(true) // 40, 1)][:64]
            self.assertIn(book, oracle.agreeing(n, findings))
            self.check(n, findings)


class WithFirstAndAfter(unittest.TestCase):
    def check(self, n, findings):
        t = oracle.text_of(n, findings)
        told = first(t)
        k = 0
        while told != [0]:
            self.assertEqual(nth(k, t), told, (n, findings, k))
            self.assertEqual(rank(t, told[1:]), [k], (n, findings, k))
            told = after(t, told[1:])
            k += 1
        self.assertEqual(nth(k, t), [-4], (n, findings, k))

    def test_each_book_in_turn(self):
        for n, times in ((1, 10), (2, 30), (3, 12)):
            for findings in oracle.drawn_texts(620 + n, n, 4, times):
                self.check(n, findings)

    def test_four_leaves_that_few_books_agree_with(self):
        for findings in (["1 = 4", "1a > 1b", "o 1 2", "2b ^"], ["1 = 2", "3 = 4", "! 1 ~ 3", "1a > 2a"],
                         ["1b > 2a", "2b > 3a", "3b > 4a"]):
            self.check(4, findings)

    def test_four_leaves_that_many_books_agree_with(self):
        for findings in ([], ["! 1 = 2"], ["2 < 4"]):
            t = oracle.text_of(4, findings)
            self.assertEqual(nth(0, t), first(t))
            for k in (0, 1, 700, 2000):
                self.assertEqual(nth(k + 1, t), after(t, nth(k, t)[1:]))


class Edges(Held):
    def test_no_findings(self):
        for n in (1, 2, 3, 4):
            books = oracle.all_books(n)
            t = oracle.text_of(n, [])
            self.assertEqual(nth(0, t), oracle.answer(books[0]))
            self.assertEqual(nth(len(books) - 1, t), oracle.answer(books[-1]))
            self.assertEqual(nth(len(books), t), [-4])
            self.assertEqual(rank(t, oracle.to_bytes(books[0])), [0])
            self.assertEqual(rank(t, oracle.to_bytes(books[-1])), [len(books) - 1])

    def test_the_first_and_the_last_of_four_leaves_by_hand(self):
        t = oracle.to_bytes("4\n")
        self.assertEqual(nth(0, t), oracle.answer("(1a (2a 3a) 4a)"))
        self.assertEqual(nth(10751, t), oracle.answer("4b 3b 2b 1b"))
        self.assertEqual(nth(10752, t), [-4])
        self.assertEqual(rank(t, oracle.to_bytes("(1a (2a 3a) 4a)")), [0])
        self.assertEqual(rank(t, oracle.to_bytes("4b 3b 2b 1b")), [10751])

    def test_two_leaves_by_hand(self):
        t = oracle.to_bytes("2\n1 = 2\n1a ^\n")
        for k, book in enumerate(("(1a 2a)", "(1a 2b)", "(2a 1a)", "(2b 1a)")):
            self.assertEqual(nth(k, t), oracle.answer(book))
            self.assertEqual(rank(t, oracle.to_bytes(book)), [k])
        self.assertEqual(nth(4, t), [-4])
        for u, before in (("(1b 2a)", 2), ("(2a 1b)", 3), ("1a / 2a", 4), ("2b 1b", 4), ("(2b 1b)", 4)):
            self.assertEqual(rank(t, oracle.to_bytes(u)), [before], u)

    def test_just_behind_the_last(self):
        for n in (1, 2, 3, 4):
            for findings in ([], ["1a ^"], ["1a > 1b", "1 = 0"]):
                many = len(oracle.agreeing(n, findings))
                self.check_nth(n, findings, (many - 1, many, many + 1, LARGEST))

    def test_one_book_alone_agrees(self):
        for n, findings, book in ((1, ["1b ^"], "1b"), (2, ["1b > 2a", "! 1 ~ 2"], "1a / 2a"),
                                  (3, ["1b > 3a", "3b > 2a", "1 = 2"], "(1a 3a 2a)")):
            self.assertEqual(oracle.agreeing(n, findings), [book])
            self.check(n, findings)
            self.check_rank(n, findings, oracle.all_books(n))

    def test_no_book_agrees(self):
        for n in (1, 2, 3, 4):
            for findings in (["1a ^", "1b ^"], ["1 = 0", "! 1 = 0"], ["! 1a > 1b", "! 1b > 1a"]):
                t = oracle.text_of(n, findings)
                for k in (0, 1, LARGEST):
                    self.assertEqual(nth(k, t), [-4])
                for u in (oracle.all_books(n)[0], oracle.all_books(n)[-1]):
                    self.assertEqual(rank(t, oracle.to_bytes(u)), [0])


class Refusals(unittest.TestCase):
    """-2 first, then -6, then of rank -3, of nth -4, each its number alone."""

    good = oracle.to_bytes("2\n1 < 2\n")
    none = oracle.to_bytes("2\n1 < 2\n2 < 1\n")
    bad = oracle.to_bytes("2\n1 < 3\n")
    book = oracle.to_bytes("1a 2a")
    no_books = [oracle.to_bytes(u) for u in ("", "1a", "1a 3a", "1a 2a ", "1a 2a\n", "(1a 2a", "1a 2a 3a", "1a/2a")]

    def test_long_texts(self):
        for size, told in ((8192, [-6]), (8193, [-2]), (8400, [-2]), (16384, [-2])):
            for t in ([32] * size, [49] * size, self.good + [10] * (size - len(self.good))):
                for k in (0, 1, LARGEST):
                    self.assertEqual(nth(k, t), told)
                self.assertEqual(rank(t, self.book), told)
                self.assertEqual(rank(t, []), told)

    def test_long_books(self):
        for size, told in ((8192, [-3]), (8193, [-2]), (8400, [-2]), (16384, [-2])):
            for u in ([49] * size, self.book + [32] * (size - len(self.book))):
                self.assertEqual(rank(self.good, u), told)
                self.assertEqual(rank(self.none, u), told)

    def test_a_long_book_is_told_before_a_wrong_text(self):
        for t in (self.bad, [], [32] * 8192, [32] * 8193):
            self.assertEqual(rank(t, [32] * 8193), [-2])
        self.assertEqual(rank(self.bad, [32] * 8192), [-6])

    def test_a_wrong_text(self):
        for text in ("", "\n", "0\n", "17\n", "2", "2\n1 < 3\n", "2\n1 < 2", "2\n\n", "02\n", "2\n" + "1 < 2\n" * 65):
            t = oracle.to_bytes(text)
            for k in (0, 1, LARGEST):
                self.assertEqual(nth(k, t), [-6], text)
            for u in [self.book] + self.no_books:
                self.assertEqual(rank(t, u), [-6], text)

    def test_a_wrong_book(self):
        for u in self.no_books:
            self.assertEqual(rank(self.good, u), [-3])
            self.assertEqual(rank(self.none, u), [-3])

    def test_a_book_of_other_leaves(self):
        for n in (1, 2, 3, 4):
            for m in (1, 2, 3, 4):
                u = oracle.to_bytes(oracle.all_books(m)[0])
                self.assertEqual(rank(oracle.text_of(n, []), u), [0] if n == m else [-3])


if __name__ == "__main__":
    unittest.main()
