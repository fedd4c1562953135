"""What is handed in stays as it was, nothing is kept, nothing is printed, and answers are plain lists."""
import contextlib
import copy
import inspect
import io
import unittest

import boundagain.agreement
import boundagain.books
import oracle
from boundagain.books import after, clash, count, first, nth, rank, sure, where, why

TEXTS = ["", "1\n", "1\n1a ^\n1b ^\n", "2\n1 < 2\n", "3\n! 1 = 2\no 1 3\nh 1a 2b\n", "4\n1a > 3b\n", "4\n1 < 1\n",
         "x" * 8193]
BOOKS = ["", "1a", "1b", "(1a 2a)", "2b 1b", "1a / 2b / 3a", "(1a (2b 3a) 4b)", "4b 3b 2b 1b", "1a)", "y" * 8193]
LINES = ["", "1a ^", "! 1b ^", "1a > 2b", "1 = 2", "o 1 3", "h 1b 3a", "4 < 1", "! ! 1a ^", "1 < 2\n", "z" * 8193]
NUMBERS = [0, 1, 5, 2147483647]

# The names, the order of the arguments and what else is handed in beside t.
FUNCTIONS = [(first, "t"), (after, "tu"), (nth, "kt"), (rank, "tu"), (count, "t"), (sure, "tf"), (why, "tf"),
             (clash, "t"), (where, "lt")]
TELL_BOOKS = (first, after, nth)
OTHERS = {"u": [oracle.to_bytes(book) for book in BOOKS], "f": [oracle.to_bytes(line) for line in LINES], "k": NUMBERS,
          "l": NUMBERS}


def all_calls():
    """Each function with each choice of what is handed in."""
    calls = []
    for function, names in FUNCTIONS:
        for text in TEXTS:
            rows = [[]]
            for name in names:
                choices = [oracle.to_bytes(text)] if name == "t" else OTHERS[name]
                rows = [row + [copy.deepcopy(choice)] for row in rows for choice in choices]
            calls += [(function, row) for row in rows]
    return calls


def answers(calls):
    return [function(*row) for function, row in calls]


class HandedIn(unittest.TestCase):
    def test_lists_stay_as_they_were(self):
        for function, row in all_calls():
            before = copy.deepcopy(row)
            function(*row)
            self.assertEqual(row, before, function)

    def test_one_list_for_both(self):
        for function, names in FUNCTIONS:
            t = oracle.to_bytes("2\n")
            if names in ("tu", "tf"):
                self.assertEqual(function(t, t), [-3])
                self.assertEqual(t, oracle.to_bytes("2\n"))

    def test_an_answer_is_a_list_of_its_own(self):
        calls = all_calls()
        once = answers(calls)
        for told in answers(calls):
            told.append(7)
            told[0] = 9
        self.assertEqual(answers(calls), once)


class Asked(unittest.TestCase):
    def test_the_same_call_twice(self):
        for function, row in all_calls():
            self.assertEqual(function(*row), function(*row))

    def test_other_calls_between_change_nothing(self):
        calls = all_calls()
        once = answers(calls)
        self.assertEqual(answers(calls[::-1])[::-1], once)
        mixed = [(k * 7) % len(calls) for k in range(len(calls))]
        self.assertEqual([calls[k][0](*calls[k][1]) for k in mixed], [once[k] for k in mixed])

    def test_nothing_in_the_modules_changes(self):
        for module in (boundagain.books, boundagain.agreement):
            before = {name: repr(value) for name, value in vars(module).items()}
            answers(all_calls())
            self.assertEqual({name: repr(value) for name, value in vars(module).items()}, before)

    def test_nothing_is_printed(self):
        out = io.StringIO()
        with contextlib.redirect_stdout(out), contextlib.redirect_stderr(out):
            answers(all_calls())
        self.assertEqual(out.getvalue(), "")


class Answers(unittest.TestCase):
    def test_lists_of_whole_numbers(self):
        for told in answers(all_calls()):
            self.assertIs(type(told), list)
            self.assertEqual([number for number in told if type(number) is not int], [])

    def test_a_refusal_is_its_number_alone(self):
        for told in answers(all_calls()):
            if told[0] < 0:
                self.assertIn(told, ([-2], [-3], [-4], [-5], [-6]))

    def test_a_book_is_a_length_then_so_many_bytes(self):
        for function, row in all_calls():
            if function in TELL_BOOKS:
                told = function(*row)
                self.assertEqual(len(told), 1 + max(told[0], 0))

    def test_names_of_arguments(self):
        for function, names in FUNCTIONS:
            self.assertEqual("".join(inspect.signature(function).parameters), names)
        t = oracle.to_bytes("1\n")
        u = oracle.to_bytes("1b")
        self.assertEqual(first(t=t), oracle.answer("1a"))
        self.assertEqual(after(t=t, u=oracle.to_bytes("1a")), oracle.answer("1b"))
        self.assertEqual(nth(k=1, t=t), oracle.answer("1b"))
        self.assertEqual(rank(t=t, u=u), [1])
        self.assertEqual(count(t=t), [2])
        self.assertEqual(sure(t=t, f=oracle.to_bytes("1a ^")), [1])
        self.assertEqual(why(t=t, f=oracle.to_bytes("1 = 0")), [0])
        self.assertEqual(clash(t=oracle.to_bytes("1\n! 1 = 0\n")), [1, 1])
        self.assertEqual(where(l=1, t=t), [1, 0, 1, 0, 2, 0, 1])


if __name__ == "__main__":
    unittest.main()
