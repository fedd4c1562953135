"""D1 to D6, of the answers of all nine calls."""
import random
import unittest

import oracle
from boundagain.books import after, clash, count, first, nth, rank, sure, where, why
from test_books_that_agree import chain


class D1(unittest.TestCase):
    def test_all_that_agree_each_once_in_order(self):
        for n in (1, 2, 3, 4):
            for findings in oracle.drawn_texts(200 + n, n, 4, 12):
                found = chain(oracle.text_of(n, findings))
                self.assertEqual(found, sorted(set(found)))
                self.assertEqual(set(found), set(oracle.agreeing(n, findings)))

    def test_a_book_is_the_first_behind_all_before_it(self):
        for findings in oracle.drawn_texts(210, 3, 3, 10):
            t = oracle.text_of(3, findings)
            found = chain(t)
            for book, later in zip(found, found[1:]):
                self.assertEqual(after(t, oracle.to_bytes(book)), oracle.answer(later))

    def test_numbers_tell_all_that_agree_each_once(self):
        for n, times in ((1, 8), (2, 12), (3, 8)):
            for findings in oracle.drawn_texts(220 + n, n, 4, times):
                t = oracle.text_of(n, findings)
                found = chain(t)
                self.assertEqual(count(t), [len(found)])
                self.assertEqual([nth(k, t) for k in range(len(found) + 1)],
                                 [oracle.answer(book) for book in found] + [[-4]])
                self.assertEqual([rank(t, oracle.to_bytes(book)) for book in found], [[k] for k in range(len(found))])


def denied(f):
    return f[2:] if f.startswith("! ") else "! " + f


class D2(unittest.TestCase):
    def check(self, n, findings, f):
        t = oracle.text_of(n, findings)
        many = count(t)[0]
        held = count(oracle.text_of(n, findings + [f]))[0]
        told = sure(t, oracle.to_bytes(f))
        if many == 0:
            self.assertEqual(told, [-5], (findings, f))
        else:
            self.assertEqual(told, [2 if held == many else 1 if held > 0 else 0], (findings, f))
            self.assertEqual(sure(t, oracle.to_bytes(denied(f))) == [2], told == [0], (findings, f))
            self.assertEqual(sure(t, oracle.to_bytes(denied(f))), [2 - told[0]], (findings, f))

    def test_certain_of_all_possible_of_some(self):
        for n, times, every in ((1, 10, 1), (2, 20, 3), (3, 20, 13), (4, 2, 80)):
            for findings in oracle.drawn_texts(250 + n, n, 4, times):
                for f in oracle.all_findings(n)[len(findings)::every]:
                    self.check(n, findings, f)


def chosen(findings, row):
    return [findings[number - 1] for number in row]


def without_one(row):
    return [row[:k] + row[k + 1:] for k in range(len(row))]


class D3(unittest.TestCase):
    def check_row(self, findings, told):
        self.assertEqual(len(told), 1 + told[0])
        self.assertEqual(told[1:], sorted(set(told[1:])))
        self.assertLessEqual(set(told[1:]), set(range(1, len(findings) + 1)))

    def test_what_is_told_to_follow_follows_and_from_no_fewer(self):
        source = random.Random(8)
        for n, times in ((1, 10), (2, 30), (3, 40)):
            for findings in oracle.true_texts(260 + n, n, 7, times):
                for f in source.sample(oracle.all_findings(n), 6):
                    told = why(oracle.text_of(n, findings), oracle.to_bytes(f))
                    if told == [-4]:
                        self.assertNotEqual(sure(oracle.text_of(n, findings), oracle.to_bytes(f)), [2])
                        continue
                    self.check_row(findings, told)
                    row = told[1:]
                    self.assertEqual(sure(oracle.text_of(n, chosen(findings, row)), oracle.to_bytes(f)), [2])
                    for fewer in without_one(row):
                        self.assertNotEqual(sure(oracle.text_of(n, chosen(findings, fewer)), oracle.to_bytes(f)), [2])

    def test_what_clashes_clashes_and_none_can_be_left_out(self):
        for n, times in ((1, 30), (2, 100), (3, 100)):
            for findings in oracle.drawn_texts(270 + n, n, 8, times):
                told = clash(oracle.text_of(n, findings))
                self.check_row(findings, told)
                if told == [0]:
                    self.assertNotEqual(first(oracle.text_of(n, findings)), [0])
                    continue
                self.assertEqual(count(oracle.text_of(n, chosen(findings, told[1:]))), [0])
                for fewer in without_one(told[1:]):
                    self.assertNotEqual(count(oracle.text_of(n, chosen(findings, fewer))), [0])


class D4(unittest.TestCase):
    def test_with_a_finding_more_no_more_books(self):
        for n, times in ((1, 10), (2, 40), (3, 40), (4, 3)):
            for findings in oracle.drawn_texts(300 + n, n, 5, times):
                before = set(oracle.all_books(n))
                for k in range(len(findings) + 1):
                    found = set(chain(oracle.text_of(n, findings[:k])))
                    self.assertLessEqual(found, before, findings[:k])
                    before = found

    def test_with_a_finding_more_no_more_come_before_a_book(self):
        for n, times in ((1, 10), (2, 20), (3, 20), (4, 5)):
            for findings in oracle.drawn_texts(320 + n, n, 4, times):
                for u in oracle.all_books(n)[::len(oracle.all_books(n)) // 2]:
                    before = [rank(oracle.text_of(n, findings[:k]), oracle.to_bytes(u))
                              for k in range(len(findings) + 1)]
                    self.assertEqual(before, sorted(before, reverse=True), findings)

    def test_with_a_finding_more_the_count_is_no_more(self):
        for n, times in ((1, 20), (2, 60), (3, 60), (4, 15)):
            for findings in oracle.drawn_texts(330 + n, n, 6, times):
                told = [count(oracle.text_of(n, findings[:k])) for k in range(len(findings) + 1)]
                self.assertEqual(told, sorted(told, reverse=True), findings)

    def test_what_is_certain_stays_so(self):
        for n, times, every in ((1, 20, 1), (2, 40, 5), (3, 40, 23), (4, 3, 111)):
            for findings in oracle.drawn_texts(340 + n, n, 5, times):
                for f in oracle.all_findings(n)[len(findings)::every]:
                    told = [sure(oracle.text_of(n, findings[:k]), oracle.to_bytes(f)) for k in range(len(findings) + 1)]
                    for before, behind in zip(told, told[1:]):
                        if before in ([0], [2], [-5]):
                            self.assertIn(behind, (before, [-5]), (findings, f))

    def test_what_follows_and_clashes_stays_so(self):
        for n, times in ((1, 20), (2, 30), (3, 30)):
            for findings in oracle.drawn_texts(350 + n, n, 8, times):
                texts = [oracle.text_of(n, findings[:k]) for k in range(len(findings) + 1)]
                rows = [clash(t) for t in texts]
                for before, behind in zip(rows, rows[1:]):
                    if before != [0]:
                        self.assertLessEqual(1, behind[0], findings)
                        self.assertLessEqual(behind[0], before[0], findings)
                for f in findings[:2]:
                    rows = [why(t, oracle.to_bytes(f)) for t in texts]
                    for before, behind in zip(rows, rows[1:]):
                        if before[0] >= 0 and behind != [-5]:
                            self.assertIn(behind[0], range(before[0] + 1), findings)
                        if before == [-5]:
                            self.assertEqual(behind, [-5])

    def test_a_finding_and_the_one_with_not_share_out_the_books(self):
        for n in (1, 2, 3):
            for finding in oracle.all_findings(n)[::3]:
                if not finding.startswith("! "):
                    found = chain(oracle.text_of(n, [finding]))
                    others = chain(oracle.text_of(n, ["! " + finding]))
                    self.assertEqual(sorted(found + others), list(oracle.all_books(n)), finding)

    def test_the_order_of_findings_is_of_no_weight(self):
        for findings in oracle.drawn_texts(310, 3, 5, 30):
            self.assertEqual(chain(oracle.text_of(3, findings)), chain(oracle.text_of(3, findings[::-1])))


def told_where(leaf, t):
    """The places, partners and sides that where tells, or None for a refusal."""
    told = where(leaf, t)
    if told[0] < 0:
        return None
    rows = []
    while told:
        rows.append(told[1:1 + told[0]])
        told = told[1 + told[0]:]
    return rows


class D5(unittest.TestCase):
    def check(self, n, findings):
        t = oracle.text_of(n, findings)
        looks = [oracle.look_at(book) for book in chain(t)]
        for leaf in range(1, n + 1):
            number = str(leaf)
            told = told_where(leaf, t)
            if not looks:
                self.assertIsNone(told)
                continue
            places, partners, sides = told
            self.assertEqual(places, sorted({look.order.index(number) for look in looks}), findings)
            self.assertEqual(sides, sorted({int(number + "b" in look.sides[0::2]) for look in looks}), findings)
            for other in range(n + 1):
                if other != leaf:
                    possible = sure(t, oracle.to_bytes(f"{leaf} = {other}"))[0] > 0
                    self.assertEqual(other in partners, possible, (findings, leaf, other))
            self.assertEqual(partners, sorted(set(partners) - {leaf}))

    def test_of_all_and_of_no_other(self):
        for n, times in ((1, 20), (2, 60), (3, 60)):
            for findings in oracle.drawn_texts(360 + n, n, 5, times):
                self.check(n, findings)
        for findings in (["1b > 2a", "2 = 4"], ["o 1 2 3", "3 < 2", "4 = 1"], ["1 < 2", "! 1 < 2"]):
            self.check(4, findings)

    def test_sides_are_as_sure_tells_them(self):
        for n, times in ((1, 20), (2, 40), (3, 40), (4, 5)):
            for findings in oracle.true_texts(370 + n, n, 4, times):
                t = oracle.text_of(n, findings)
                for leaf in range(1, n + 1):
                    fronts = [k for k in (0, 1) if sure(t, oracle.to_bytes(f"{leaf}{'ab'[k]} ^"))[0] > 0]
                    self.assertEqual(told_where(leaf, t)[2], fronts, (findings, leaf))

    def test_with_a_finding_more_no_more_is_told(self):
        for n, times in ((1, 10), (2, 30), (3, 30), (4, 5)):
            for findings in oracle.drawn_texts(380 + n, n, 5, times):
                for leaf in range(1, n + 1):
                    told = [told_where(leaf, oracle.text_of(n, findings[:k])) for k in range(len(findings) + 1)]
                    for before, behind in zip(told, told[1:]):
                        for row, later in zip(before or [], behind or []):
                            self.assertLessEqual(set(later), set(row), findings)
                        self.assertFalse(before is None and behind is not None, findings)


def turned_text(n, findings):
    return oracle.text_of(n, [oracle.turned_finding(finding) for finding in findings])


class D6(unittest.TestCase):
    def check(self, n, findings):
        found = chain(oracle.text_of(n, findings))
        turned = chain(turned_text(n, findings))
        self.assertEqual(turned, sorted(oracle.turned_book(book) for book in found), findings)

    def test_each_finding(self):
        for n in (1, 2, 3):
            for finding in oracle.all_findings(n):
                self.check(n, [finding])

    def test_several_findings(self):
        for n, times in ((1, 10), (2, 40), (3, 40), (4, 4)):
            for findings in oracle.drawn_texts(400 + n, n, 4, times):
                self.check(n, findings)

    def test_count_and_sure(self):
        for n, times, every in ((1, 10, 1), (2, 40, 5), (3, 60, 17), (4, 5, 111)):
            for findings in oracle.drawn_texts(410 + n, n, 4, times):
                t = oracle.text_of(n, findings)
                turned = turned_text(n, findings)
                self.assertEqual(count(t), count(turned), findings)
                for f in oracle.all_findings(n)[len(findings)::every]:
                    line = oracle.to_bytes(oracle.turned_finding(f))
                    self.assertEqual(sure(t, oracle.to_bytes(f)), sure(turned, line), (findings, f))

    def test_why_and_clash(self):
        for n, times in ((1, 10), (2, 40), (3, 40)):
            for findings in oracle.drawn_texts(420 + n, n, 8, times) + oracle.true_texts(430 + n, n, 6, times):
                t = oracle.text_of(n, findings)
                turned = turned_text(n, findings)
                self.assertEqual(clash(t), clash(turned), findings)
                for f in oracle.all_findings(n)[len(findings)::37] + findings[:1]:
                    line = oracle.to_bytes(oracle.turned_finding(f))
                    self.assertEqual(why(t, oracle.to_bytes(f)), why(turned, line), (findings, f))

    def test_nth_and_rank(self):
        for n, times in ((1, 10), (2, 20), (3, 10)):
            for findings in oracle.drawn_texts(440 + n, n, 4, times):
                t = oracle.text_of(n, findings)
                turned = turned_text(n, findings)
                books = [oracle.turned_book(oracle.to_text(nth(k, t)[1:])) for k in range(count(t)[0])]
                for k, book in enumerate(sorted(books)):
                    self.assertEqual(nth(k, turned), oracle.answer(book), findings)
                    self.assertEqual(rank(turned, oracle.to_bytes(book)), [k], findings)

    def test_where(self):
        for n, times in ((1, 20), (2, 60), (3, 80), (4, 8)):
            for findings in oracle.drawn_texts(450 + n, n, 4, times):
                t = oracle.text_of(n, findings)
                turned = turned_text(n, findings)
                for leaf in range(1, n + 1):
                    told = told_where(leaf, t)
                    if told is not None:
                        places = sorted(n - 1 - place for place in told[0])
                        told = [places, told[1], sorted(1 - side for side in told[2])]
                    self.assertEqual(told_where(leaf, turned), told, findings)
                self.assertEqual([where(leaf, turned) for leaf in (0, n + 1)], [[-4], [-4]])

    def test_a_turned_book_is_the_one_behind_some_book(self):
        t = oracle.text_of(2, [])
        books = list(oracle.all_books(2))
        for before, book in zip(books, books[1:]):
            self.assertIn(oracle.turned_book(book), books)
            self.assertEqual(after(t, oracle.to_bytes(before)), oracle.answer(book))
        self.assertEqual(first(t), oracle.answer(books[0]))


class AllTogether(unittest.TestCase):
    """The nine calls of one text, one held against the others."""

    def check(self, n, findings, fs):
        t = oracle.text_of(n, findings)
        found = chain(t)
        self.assertEqual(count(t), [len(found)])
        for k in {0, len(found) // 2, max(len(found) - 1, 0)}:
            self.assertEqual(nth(k, t), oracle.answer(found[k]) if found else [-4])
        self.assertEqual(nth(len(found), t), [-4])
        for u in found[:1] + found[-1:]:
            self.assertEqual(nth(rank(t, oracle.to_bytes(u))[0], t), oracle.answer(u))
        self.assertEqual(clash(t) == [0], found != [])
        for f in fs:
            self.check_finding(n, findings, found, f)
        for leaf in range(1, n + 1):
            self.assertEqual(where(leaf, t) == [-5], found == [])

    def check_finding(self, n, findings, found, f):
        t = oracle.text_of(n, findings)
        line = oracle.to_bytes(f)
        held = count(oracle.text_of(n, findings + [f]))[0]
        told = sure(t, line)
        reason = why(t, line)
        if not found:
            self.assertEqual((told, reason, held), ([-5], [-5], 0))
            return
        self.assertEqual(told, [2 if held == len(found) else 1 if held else 0])
        self.assertEqual(reason == [-4], told != [2])
        contrary = clash(oracle.text_of(n, findings + [denied(f)]))
        self.assertEqual(contrary != [0], told == [2])
        if told == [2]:
            # What f follows from clashes with its contrary, and nothing shorter does.
            self.assertEqual(contrary, [reason[0] + 1] + reason[1:] + [len(findings) + 1])

    def test_texts_of_findings(self):
        for n, times, every in ((1, 20, 1), (2, 25, 9), (3, 25, 41)):
            for findings in oracle.drawn_texts(460 + n, n, 7, times) + oracle.true_texts(470 + n, n, 6, times):
                self.check(n, findings, oracle.all_findings(n)[len(findings)::every])


if __name__ == "__main__":
    unittest.main()
