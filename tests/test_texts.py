"""What is a text of findings and what is a book's text, and the refusals in their order."""
import random
import unittest

import oracle
from boundagain.books import after, first

NO_TEXTS = [
    "", "\n", "\n\n", "1", "2\n1 < 2", "2\n1 < 2\n ", "2\n1 < 2\n\n", "2\n\n1 < 2\n", "\n2\n",
    "0\n", "17\n", "18\n", "20\n", "100\n", "01\n", "02\n1 < 2\n", "00\n", "+1\n", "-1\n", " 1\n", "1 \n", "1\r\n",
    "a\n", "1a\n", "2 1 < 2\n", "2\t\n", "n\n", "1.\n", "116\n", "1" + "0" * 3000 + "\n", "0" * 3000 + "1\n",
]

NO_FINDINGS = [
    "", " ", "!", "! ", "! !", "! ! 1 < 2", "!! 1 < 2", "!1 < 2", "!  1 < 2", " ! 1 < 2", "1 < 2 !", "! 1",
    "1", "1a", "1 2", "1a 2a", "x", "1 # 2",
    # out of range
    "0 < 1", "1 < 0", "4 < 1", "1 < 4", "1 ~ 0", "0 ~ 1", "1 = 4", "4 = 1", "0 = 1", "0 = 0", "4 = 0", "1 < 17",
    "0a > 1a", "1a > 4a", "4b | 1a", "0a ^", "4a ^", "17b ^", "o 0 1", "o 1 4", "h 0a", "h 4a", "h 1a 4b",
    # zeros in front
    "01 < 2", "1 < 02", "01a ^", "1a > 02b", "1 = 00", "1 = 02", "o 01 2", "h 01a",
    # the same leaf, the same side
    "1a > 1a", "3b > 3b", "1a | 1a", "1a | 1b", "2b | 2a", "1 = 1", "1 < 1", "3 ~ 3",
    # rows that do not rise, and rows too short
    "o", "o ", "o 1", "o 2 1", "o 1 1", "o 1 3 2", "o 1 2 2", "o 1a 2a", "o1 2", "o 1, 2",
    "h", "h ", "h 1b 1a", "h 1a 1a", "h 2a 1a", "h 1a 3a 2a", "h 1a 2b 2a", "h 1", "h 1 2", "h1a", "H 1a", "O 1 2",
    "o o 1 2", "h h 1a", "o h 1a", "o 1 2 h 1a",
    # blanks too many or too few
    "1  < 2", "1 <  2", " 1 < 2", "1 < 2 ", "1< 2", "1 <2", "1<2", "1a>2a", "1a >2a", "1a^", "1a  ^", " 1a ^", "1a ^ ",
    "1 =0", "1= 0", "1 = 0 ", "o  1 2", "o 1  2", "o 1 2 ", "h  1a", "h 1a  2a", "h 1a ", " h 1a", " o 1 2", "1 a ^",
    "1\t< 2", "1 <\t2",
    # something behind a finding
    "1 < 2 3", "1 < 2 < 3", "1a > 2a > 3a", "1a > 2a 3a", "1a ^ 2a", "1a ^ ^", "1 = 0 0", "1 = 2 ~ 3", "1 < 2x",
    "1 < 2.", "1a > 2ab", "1a ^x", "1 < 2\r", "1 < 2\x00", "1 < 2 1 < 2",
    # leaves for sides and sides for leaves, other sides, other signs
    "1 > 2", "1a > 2", "1 > 2a", "1 | 2", "1a | 2", "1 ^", "1a = 2a", "1a = 0", "1a < 2a", "1 < 2b", "1a ~ 2a",
    "1c ^", "1A ^", "a1 ^", "1ab ^", "a ^", "^ 1a", "^", "1a >", "> 1a", "1a |", "1 =", "= 0", "< 2", "1 <", "1 ~",
    "1a << 2a", "1 == 2", "1 <= 2", "1 >> 2", "2 > 1", "1a < 2", "1a = 0a", "1a > 0", "1a | 0", "1 < 0 ", "1 ~ 0",
    "! 1a", "! o 1", "! h", "! 1 = 1", "! 1a > 1a", "! 1 < 2 ", "! 1 <  2", "! o 2 1", "! h 1b 1a", "! 4a ^",
    "\xb9 < 2", "1 < 2\xa0", "1\xa0< 2",
]

FINDINGS = [
    "1a > 1b", "1b > 1a", "1a > 2a", "3b > 1b", "1a | 2a", "3b | 1a", "1a ^", "3b ^", "1 = 2", "3 = 1", "1 = 0",
    "3 = 0", "1 < 2", "3 < 1", "1 ~ 2", "3 ~ 2", "o 1 2", "o 1 3", "o 2 3", "o 1 2 3", "h 1a", "h 3b", "h 1a 1b",
    "h 1b 2a", "h 1a 3b", "h 1a 1b 2a 2b 3a 3b",
]


class TextsOfFindings(unittest.TestCase):
    def check(self, text, refused):
        t = oracle.to_bytes(text)
        n = oracle.leaves_of_text(text)
        self.assertEqual(n == 0, refused, text)
        # No bytes are no book's text, so that this is told without a search, of however many leaves.
        self.assertEqual(after(t, []), [-6] if refused else [-3], text)
        if n <= 4:
            self.assertEqual(first(t) == [-6], refused, text)

    def test_no_texts(self):
        for text in NO_TEXTS:
            self.check(text, True)

    def test_no_findings(self):
        for line in NO_FINDINGS:
            self.check(f"3\n{line}\n", True)
            self.check(f"3\n1 < 2\n{line}\n", True)
            self.check(f"3\n{line}\n1 < 2\n", True)

    def test_findings(self):
        for line in FINDINGS:
            self.check(f"3\n{line}\n", False)
            self.check(f"3\n! {line}\n", False)
            self.check(f"3\n1 < 2\n! {line}\n2 < 3\n", False)
            self.check(f"3\n{line}", True)
            self.check(f"3\n! ! {line}\n", True)
            self.check(f"3\n{line} \n", True)
            self.check(f"3\n {line}\n", True)

    def test_what_a_leaf_less_makes_wrong(self):
        for line in FINDINGS:
            self.check(f"2\n{line}\n", "3" in line)

    def test_one_leaf_alone(self):
        for line, refused in (("1a ^", False), ("1a > 1b", False), ("1 = 0", False), ("h 1a 1b", False), ("o 1", True),
                              ("1 = 1", True), ("1a | 1b", True), ("1 < 2", True), ("2a ^", True), ("1 ~ 1", True)):
            self.check(f"1\n{line}\n", refused)

    def test_each_number_of_leaves(self):
        for n in range(0, 200):
            told = first(oracle.to_bytes(f"{n}\n"))
            self.assertEqual(told == [-6], n == 0 or n > 16, n)

    def test_numbers_of_two_digits(self):
        for line, refused in (("10a ^", False), ("16 < 1", False), ("9 = 10", False), ("h 9b 10a", False),
                              ("o 9 10 11", False), ("o 10 9", True), ("h 10a 9b", True), ("17 < 1", True),
                              ("010a ^", True), ("1 0a ^", True)):
            self.check(f"16\n{line}\n", refused)

    def test_how_many_findings(self):
        for count, refused in ((0, False), (1, False), (63, False), (64, False), (65, True), (66, True), (1000, True)):
            self.check("3\n" + "1 < 2\n" * count, refused)
            self.check("3\n" + "! 1 = 0\n" * count, refused)

    def test_texts_changed_a_little(self):
        source = random.Random(6)
        marks = " \n!1230abohxc><=~^|/()"
        for findings in oracle.drawn_texts(500, 3, 4, 1500):
            text = oracle.to_text(oracle.text_of(3, findings))
            for _ in range(source.randint(1, 2)):
                k = source.randrange(len(text) + 1)
                cut = source.randint(0, 1)
                text = text[:k] + source.choice(["", source.choice(marks)]) + text[k + cut:]
            self.check(text, oracle.leaves_of_text(text) == 0)


BOOKS_OF_THREE = ["(1a 2a 3a)", "1a 2a 3a", "1a / 2a / 3a", "(3b 1a) / 2b", "2b / (3b 1a)", "(2a 1b) 3a", "2a (1b 3a)"]

NO_BOOKS_OF_THREE = [
    "", " ", "/", " / ", "1a", "1a 2a", "1a / 2a", "(1a 2a)", "(1a 2a) /", "(1a 2a) / ",
    # a leaf twice, or one that there is not
    "1a 2a 2b", "1a 2a 1a", "1a 1b 2a 3a", "1a 2a 3a 3b", "1a 2a 3a 4a", "1a 2a 4a", "0a 1a 2a", "1a 2a 3a / 0a",
    # a sign without its partner, pairs across gatherings
    "(1a 2a 3a", "1a 2a 3a)", "1a) 2a 3a", "1a) 2a (3a", "1a 2a (3a", "(1a (2a 3a)", "(1a 2a) 3a)", "(1a) 2a 3a",
    "(1a 2a / 3a)", "(1a / 2a 3a)", "(1a / 2a) 3a", "(1a / 2a / 3a)", "((1a 2a) 3a)", "(1a (2a) 3a)", "()1a 2a 3a",
    ")1a 2a 3a(", "1a 2a( 3a)", "(1a 2a 3a))", "(1a 2a) / 3a)", "((1a 2a 3a)", "|1a 2a 3a", "|1a| 2a 3a",
    # blanks and strokes
    " 1a 2a 3a", "1a 2a 3a ", "1a  2a 3a", "1a 2a  3a", "1a 2a3a", "1a2a 3a", "1a/2a 3a", "1a /2a 3a", "1a/ 2a 3a",
    "1a  / 2a 3a", "1a /  2a 3a", "1a / / 2a 3a", "1a // 2a 3a", "/ 1a 2a 3a", " / 1a 2a 3a", "1a 2a 3a /",
    "1a 2a 3a / ", "( 1a 2a 3a)", "(1a 2a 3a )", "1a\t2a 3a", "1a 2a 3a\n", "\n1a 2a 3a", "1a\n2a 3a",
    # other sides and numbers
    "1 2 3", "1a 2a 3", "1c 2a 3a", "1A 2a 3a", "1ab 2a 3a", "a1 2a 3a", "01a 2a 3a", "1 a 2a 3a", "a 2a 3a", "1a 2a b",
    "1a 2a 3a\x00", "x", "1a, 2a, 3a",
]


class BooksTexts(unittest.TestCase):
    def test_books(self):
        for u in BOOKS_OF_THREE:
            self.assertIn(u, oracle.all_books(3))
            self.assertGreaterEqual(after(oracle.text_of(3, []), oracle.to_bytes(u))[0], 0, u)

    def test_no_books(self):
        for u in NO_BOOKS_OF_THREE:
            self.assertNotIn(u, oracle.all_books(3))
            for findings in ([], ["1 < 2"], ["1a ^", "1b ^"]):
                self.assertEqual(after(oracle.text_of(3, findings), oracle.to_bytes(u)), [-3], u)

    def test_a_book_of_other_leaves(self):
        for n in (1, 2, 3, 4):
            for m in (1, 2, 3, 4):
                for u in oracle.all_books(m)[::61] + oracle.all_books(m)[-1:]:
                    told = after(oracle.text_of(n, []), oracle.to_bytes(u))
                    self.assertEqual(told == [-3], n != m, (n, u))

    def test_pairs_that_cross_are_read_nested(self):
        # Signs alone make the pairs, so nothing that crosses can be written: 1 and 4 are partners here.
        t = oracle.text_of(4, ["! 1 = 4"])
        self.assertNotEqual(after(t, oracle.to_bytes("(1a (2a 3a) 4a)")), [-3])
        self.assertEqual(after(t, oracle.to_bytes("(1a (2a / 3a) 4a)")), [-3])

    def test_numbers_of_two_digits(self):
        t = oracle.text_of(10, [])
        for u, refused in (("1a 2a 3a 4a 5a 6a 7a 8a 9a 10a", False), ("(10a 1a) / 2a 3a 4a 5a 6a 7a 8a 9a", False),
                           ("1a 0a 2a 3a 4a 5a 6a 7a 8a 9a", True), ("1a 2a 3a 4a 5a 6a 7a 8a 9a 010a", True),
                           ("1a 2a 3a 4a 5a 6a 7a 8a 9a 11a", True)):
            self.assertEqual(after(t, oracle.to_bytes(u)) == [-3], refused, u)

    def test_books_changed_a_little(self):
        source = random.Random(3)
        for n, times in ((1, 200), (2, 800), (3, 800), (4, 800)):
            books = oracle.all_books(n)
            known = set(books)
            for _ in range(times):
                u = source.choice(books)
                for _ in range(source.randint(1, 2)):
                    k = source.randrange(len(u) + 1)
                    u = u[:k] + source.choice(["", source.choice(" /()1234ab|\n")]) + u[k + source.randint(0, 1):]
                told = after(oracle.text_of(n, []), oracle.to_bytes(u))
                self.assertEqual(told == [-3], u not in known, u)


def long_text(size):
    return [49] + [32] * (size - 2) + [10]


class Refusals(unittest.TestCase):
    """-2 first, then -6, then -3, each its number alone."""

    good = oracle.to_bytes("2\n1 < 2\n")
    bad = oracle.to_bytes("2\n1 < 3\n")
    book = oracle.to_bytes("1a 2a")
    no_book = oracle.to_bytes("1a 3a")

    def test_how_long_t_may_be(self):
        for size, told in ((8191, [-6]), (8192, [-6]), (8193, [-2]), (8400, [-2]), (16384, [-2])):
            for t in (long_text(size), [10] * size, [32] * size, [49] * size, [48] * size, [0] * size, [255] * size,
                      self.good + [10] * (size - len(self.good)),
                      (oracle.to_bytes("3\n" + "1 < 2\n" * size))[:size],
                      (oracle.to_bytes("3\no" + " 1" * size))[:size - 1] + [10],
                      (oracle.to_bytes("3\nh" + " 1a" * size))[:size - 1] + [10]):
                self.assertEqual(len(t), size)
                self.assertEqual(first(t), told)
                self.assertEqual(after(t, self.book), told)
                self.assertEqual(after(t, self.no_book), told)

    def test_how_long_u_may_be(self):
        for size, told in ((8191, [-3]), (8192, [-3]), (8193, [-2]), (8400, [-2]), (16384, [-2])):
            for u in ([49] * size, [32] * size, [40] * size, self.book + [32] * (size - 5),
                      oracle.to_bytes("1a / " * size)[:size], oracle.to_bytes("(1a 2a) " * size)[:size]):
                self.assertEqual(len(u), size)
                self.assertEqual(after(self.good, u), told)

    def test_a_long_u_is_told_before_a_wrong_t(self):
        self.assertEqual(after(self.bad, [32] * 8193), [-2])
        self.assertEqual(after([], [32] * 8193), [-2])
        self.assertEqual(after([32] * 8193, [32] * 8193), [-2])
        self.assertEqual(after(self.bad, [32] * 8192), [-6])

    def test_a_long_t_is_told_before_a_wrong_u(self):
        self.assertEqual(after([32] * 8193, []), [-2])
        self.assertEqual(after([32] * 8193, self.no_book), [-2])
        self.assertEqual(after([32] * 8192, []), [-6])

    def test_a_wrong_t_is_told_before_a_wrong_u(self):
        self.assertEqual(after(self.bad, self.no_book), [-6])
        self.assertEqual(after(self.bad, self.book), [-6])
        self.assertEqual(after([], []), [-6])
        self.assertEqual(first([]), [-6])

    def test_a_wrong_u_is_told_where_no_book_agrees(self):
        nothing = oracle.to_bytes("2\n1 < 2\n2 < 1\n")
        self.assertEqual(after(nothing, self.no_book), [-3])
        self.assertEqual(after(nothing, []), [-3])
        self.assertEqual(after(nothing, self.book), [0])
        self.assertEqual(first(nothing), [0])

    def test_the_longest_text_of_findings(self):
        # Even this one is well below 8192 bytes, so that no text of findings is too long.
        line = "h " + " ".join(f"{k}{side}" for k in range(1, 17) for side in "ab") + "\n"
        self.assertEqual(after(oracle.to_bytes("16\n" + line * 64), []), [-3])
        self.assertEqual(after(oracle.to_bytes("16\n" + line * 65), []), [-6])


if __name__ == "__main__":
    unittest.main()
