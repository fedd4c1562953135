"""The list that the program is held against, held against what can be told by hand."""
import unittest

import oracle


class TheListOfBooks(unittest.TestCase):
    def test_how_many_books(self):
        # Orders, times sides in front, times rows of gatherings with paired signs (1, 3, 9, 28).
        self.assertEqual([len(oracle.all_books(n)) for n in (1, 2, 3, 4)],
                         [1 * 2 * 1, 2 * 4 * 3, 6 * 8 * 9, 24 * 16 * 28])

    def test_books_of_one_and_two_leaves(self):
        self.assertEqual(oracle.all_books(1), ("1a", "1b"))
        rows = []
        for one, two in (("1", "2"), ("2", "1")):
            for s in "ab":
                for t in "ab":
                    rows += [f"({one}{s} {two}{t})", f"{one}{s} {two}{t}", f"{one}{s} / {two}{t}"]
        self.assertEqual(oracle.all_books(2), tuple(sorted(rows)))

    def test_each_book_once(self):
        for n in (1, 2, 3, 4):
            self.assertEqual(len(set(oracle.all_books(n))), len(oracle.all_books(n)))

    def test_what_holds_of_one_book(self):
        look = oracle.look_at("(2b 1a 4a) / 3b")
        for finding in ("2b > 2a", "2a > 1a", "1b > 4a", "4b > 3b", "3b > 3a", "2a | 1a", "1a | 2a", "3b | 4b",
                        "2b ^", "1a ^", "4a ^", "3b ^", "2 = 4", "4 = 2", "1 = 0", "3 = 0", "2 < 1", "2 < 3",
                        "2 ~ 4", "1 ~ 2", "o 1 2", "o 1 4", "o 3 4", "o 1 2 4", "o 1 3 4", "o 1 2 3 4",
                        "h 1a 2a", "h 2b", "h 3a", "h 3b 4b", "h 1a 1b 2a 2b 3a 3b 4a 4b"):
            self.assertTrue(oracle.holds(finding, look), finding)
            self.assertFalse(oracle.holds("! " + finding, look), finding)
        for finding in ("2a > 2b", "1a > 2a", "2b > 1a", "2b | 1a", "1a | 4a", "2b | 3a", "2a ^", "1 = 2", "2 = 0",
                        "4 = 0", "1 < 2", "3 < 4", "3 ~ 4", "1 ~ 3", "o 2 4", "o 2 3", "o 2 3 4",
                        "h 1a", "h 2a 4a", "h 3b", "h 4b"):
            self.assertFalse(oracle.holds(finding, look), finding)
            self.assertTrue(oracle.holds("! " + finding, look), finding)

    def test_agreeing_as_each_book_is_asked(self):
        for n, times in ((1, 30), (2, 60), (3, 60), (4, 3)):
            for findings in oracle.drawn_texts(n, n, 4, times):
                asked = [book for book in oracle.all_books(n)
                         if all(oracle.holds(finding, oracle.look_at(book)) for finding in findings)]
                self.assertEqual(oracle.agreeing(n, findings), asked, findings)

    def test_turning_twice_changes_nothing(self):
        for n in (1, 2, 3):
            for book in oracle.all_books(n):
                self.assertEqual(oracle.turned_book(oracle.turned_book(book)), book)
            for finding in oracle.all_findings(n):
                self.assertEqual(oracle.turned_finding(oracle.turned_finding(finding)), finding)

    def test_turned_by_hand(self):
        self.assertEqual(oracle.turned_book("(2b 1a 4a) / 3b"), "3a / (4b 1b 2a)")
        for finding, turned in (("1a > 2b", "2b > 1a"), ("! 1a > 2b", "! 2b > 1a"), ("1 < 2", "2 < 1"),
                                ("1a ^", "! 1a ^"), ("! 1a ^", "1a ^"), ("1a | 2a", "1a | 2a"), ("o 1 2", "o 1 2"),
                                ("h 1a 2b", "h 1a 2b"), ("1 = 2", "1 = 2"), ("1 = 0", "1 = 0"), ("! 1 ~ 2", "! 1 ~ 2")):
            self.assertEqual(oracle.turned_finding(finding), turned)


if __name__ == "__main__":
    unittest.main()
