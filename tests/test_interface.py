"""What is handed in stays as it was, nothing is kept, nothing is printed, and answers are plain lists."""
import contextlib
import io
import unittest

import boundagain.books
import oracle
from boundagain.books import after, first

TEXTS = ["", "1\n", "1\n1a ^\n1b ^\n", "2\n1 < 2\n", "3\n! 1 = 2\no 1 3\nh 1a 2b\n", "4\n1a > 3b\n", "4\n1 < 1\n", "x" * 8193]
BOOKS = ["", "1a", "1b", "(1a 2a)", "2b 1b", "1a / 2b / 3a", "(1a (2b 3a) 4b)", "4b 3b 2b 1b", "1a)", "y" * 8193]


def answers():
    told = [first(oracle.to_bytes(t)) for t in TEXTS]
    for t in TEXTS:
        told += [after(oracle.to_bytes(t), oracle.to_bytes(u)) for u in BOOKS]
    return told


class HandedIn(unittest.TestCase):
    def test_lists_stay_as_they_were(self):
        for text in TEXTS:
            t = oracle.to_bytes(text)
            first(t)
            self.assertEqual(t, oracle.to_bytes(text))
            for book in BOOKS:
                u = oracle.to_bytes(book)
                after(t, u)
                self.assertEqual(t, oracle.to_bytes(text))
                self.assertEqual(u, oracle.to_bytes(book))

    def test_one_list_for_both(self):
        t = oracle.to_bytes("2\n")
        self.assertEqual(after(t, t), [-3])
        self.assertEqual(t, oracle.to_bytes("2\n"))

    def test_an_answer_is_a_list_of_its_own(self):
        t = oracle.to_bytes("2\n")
        u = oracle.to_bytes("(1a 2a)")
        for told in (first(t), after(t, u), first([]), after(t, [])):
            told.append(7)
            told[0] = 9
        self.assertEqual(first(t), oracle.answer("(1a 2a)"))
        self.assertEqual(after(t, u), oracle.answer("(1a 2b)"))
        self.assertEqual([first([]), after(t, [])], [[-6], [-3]])


class Asked(unittest.TestCase):
    def test_the_same_call_twice(self):
        for text in TEXTS:
            t = oracle.to_bytes(text)
            self.assertEqual(first(t), first(t))
            for book in BOOKS:
                u = oracle.to_bytes(book)
                self.assertEqual(after(t, u), after(t, u))

    def test_other_calls_between_change_nothing(self):
        once = answers()
        self.assertEqual(answers(), once)
        backwards = [after(oracle.to_bytes(t), oracle.to_bytes(u)) for t in reversed(TEXTS) for u in reversed(BOOKS)]
        self.assertEqual(list(reversed(backwards)), once[len(TEXTS):])

    def test_nothing_in_the_module_changes(self):
        before = {name: repr(value) for name, value in vars(boundagain.books).items()}
        answers()
        self.assertEqual({name: repr(value) for name, value in vars(boundagain.books).items()}, before)

    def test_nothing_is_printed(self):
        out = io.StringIO()
        with contextlib.redirect_stdout(out), contextlib.redirect_stderr(out):
            answers()
        self.assertEqual(out.getvalue(), "")


class Answers(unittest.TestCase):
    def test_lists_of_whole_numbers(self):
        for told in answers():
            self.assertIs(type(told), list)
            self.assertEqual([number for number in told if type(number) is not int], [])

    def test_a_length_then_so_many_bytes_or_one_number_alone(self):
        for told in answers():
            self.assertEqual(len(told), 1 + max(told[0], 0))
            self.assertIn(min(told[0], 1), (-6, -3, -2, 0, 1))

    def test_names_of_arguments(self):
        t = oracle.to_bytes("1\n")
        self.assertEqual(first(t=t), oracle.answer("1a"))
        self.assertEqual(after(t=t, u=oracle.to_bytes("1a")), oracle.answer("1b"))


if __name__ == "__main__":
    unittest.main()
