"""The books that agree with a text of findings, in the order of their texts.

What a side, a book and a finding are here, boundagain/agreement.py tells.
"""
from boundagain.agreement import ALONE, CLOSES, MOST_BYTES, OPENS
from boundagain.agreement import agrees, book_text, opposite, partners_of_leaves, read_finding, read_findings


def free_fronts(n, book):
    """The sides of the leaves that the book still lacks, in the order of their texts."""
    used = [front // 2 for starts, front, sign in book]
    # 10a comes before 1a: a digit is less than an a or a b.
    ordered = list(range(20, 2 * n + 2)) + list(range(2, 2 * min(n, 9) + 2))
    return [side for side in ordered if side // 2 not in used]


def next_ways(n, book):
    """Whether a gathering may begin with the next leaf, and with which signs, in the order of the texts.

    Each ( still needs a leaf for its partner, so there are never more of them
    than leaves to come; then every beginning can be made a whole book.
    """
    signs = [sign for starts, front, sign in book]
    depth = signs.count(OPENS) - signs.count(CLOSES)
    left = n - len(book)
    opening = [OPENS] if depth + 2 <= left else []
    alone = [ALONE] if depth + 1 <= left else []
    closing = [CLOSES] if depth > 0 else []
    # Behind a blank: ( is less than /, and / less than a digit. Behind a side: a blank is less than ).
    ways = []
    if book != []:
        ways.append((False, opening))
    if depth == 0:
        ways.append((True, opening))
        ways.append((True, alone))
    if book != []:
        ways.append((False, alone + closing))
    return ways


def next_leaves(n, book):
    """All that may stand next in a book that begins so, in the order of the texts."""
    fronts = free_fronts(n, book)
    leaves = []
    for starts, signs in next_ways(n, book):
        for front in fronts:
            for sign in signs:
                leaves.append((starts, front, sign))
    return leaves


def begins_with(text, beginning):
    return text[:len(beginning)] == beginning


def read_book(n, u):
    """The book of n leaves whose text is u; an empty list if there is none."""
    book = []
    while len(book) < n:
        fitting = [leaf for leaf in next_leaves(n, book) if begins_with(u, book_text(book + [leaf]))]
        if fitting == []:
            return []
        # Two fit where one has a ) behind the other's text: then the ) must be read, and that one comes last.
        book.append(fitting[-1])
    return book if book_text(book) == u else []


def put_beginnings(waiting, book, leaves):
    """Put the book with each of the leaves behind it on the waiting ones, so that the first is taken first."""
    for leaf in reversed(leaves):
        waiting.append(book + [leaf])


def beginnings_behind(n, book):
    """The beginnings of all books behind this one, the nearest last."""
    waiting = []
    for k in range(n):
        leaves = next_leaves(n, book[:k])
        put_beginnings(waiting, book[:k], leaves[leaves.index(book[k]) + 1:])
    return waiting


def take_agreeing(n, findings, waiting):
    """Take beginnings from the last on until a whole book agrees; an empty list if none does.

    What is left waiting are the beginnings of all books behind that one.
    """
    while waiting != []:
        book = waiting.pop()
        if len(book) < n:
            put_beginnings(waiting, book, next_leaves(n, book))
        elif agrees(book, findings):
            return book
    return []


def some_agrees(n, findings):
    """Whether any book of n leaves agrees."""
    return take_agreeing(n, findings, [[]]) != []


def speaking_against(book, findings):
    """The numbers, from 1, of the findings that don't hold of the book."""
    return [k + 1 for k in range(len(findings)) if not agrees(book, [findings[k]])]


def all_against(n, findings, given):
    """What speaks against each book that agrees with what is given, as tuples of findings' numbers; each tuple once."""
    against = {}
    waiting = [[]]
    book = take_agreeing(n, given, waiting)
    while book != []:
        against[tuple(speaking_against(book, findings))] = True
        book = take_agreeing(n, given, waiting)
    return list(against)


def rules_all_out(row, against):
    """Whether a finding of the row speaks against each of the books."""
    for numbers in against:
        if not any([number in row for number in numbers]):
            return False
    return True


def longer_rows(most, rows):
    """The rows with one number more, up to most; as these are in order, so are those."""
    longer = []
    for row in rows:
        last = row[-1] if row != [] else 0
        for number in range(last + 1, most + 1):
            longer.append(row + [number])
    return longer


def fewest_against(most, against):
    """The first of the shortest rows of numbers up to most that rules all books out.

    Something must speak against each of the books: then the row of all does.
    """
    rows = [[]]
    while rows != []:
        for row in rows:
            if rules_all_out(row, against):
                return row
        rows = longer_rows(most, rows)
    return []


def lie_of_leaf(book, leaf):
    """Its place, its partner (0: it is alone), the side in front (0 side a, 1 side b)."""
    fronts = [front for starts, front, sign in book if front // 2 == leaf]
    leaves = [front // 2 for starts, front, sign in book]
    return (leaves.index(leaf), partners_of_leaves(book)[leaf], fronts[0] % 2)


def all_lies_of_leaf(n, findings, leaf):
    """How it lies in the books that agree, each lie once."""
    lies = {}
    waiting = [[]]
    book = take_agreeing(n, findings, waiting)
    while book != []:
        lies[lie_of_leaf(book, leaf)] = True
        book = take_agreeing(n, findings, waiting)
    return list(lies)


def told_row(row):
    """How many there are, then these."""
    return [len(row)] + row


def told_book(book):
    return told_row(book_text(book))


def first(t):
    """The first book that agrees; 0 alone if there is none."""
    if len(t) > MOST_BYTES:
        return [-2]
    told = read_findings(t)
    if told is None:
        return [-6]
    return told_book(take_agreeing(told[0], told[1], [[]]))


def after(t, u):
    """The first book behind u that agrees; 0 alone if there is none."""
    if len(t) > MOST_BYTES or len(u) > MOST_BYTES:
        return [-2]
    told = read_findings(t)
    if told is None:
        return [-6]
    book = read_book(told[0], u)
    if book == []:
        return [-3]
    return told_book(take_agreeing(told[0], told[1], beginnings_behind(told[0], book)))


def nth(k, t):
    """Number k, from 0, of the books that agree; -4 if there are no so many."""
    if len(t) > MOST_BYTES:
        return [-2]
    told = read_findings(t)
    if told is None:
        return [-6]
    waiting = [[]]
    number = 0
    book = take_agreeing(told[0], told[1], waiting)
    while book != [] and number < k:
        number = number + 1
        book = take_agreeing(told[0], told[1], waiting)
    return [-4] if book == [] else told_book(book)


def rank(t, u):
    """How many books that agree come before u."""
    if len(t) > MOST_BYTES or len(u) > MOST_BYTES:
        return [-2]
    told = read_findings(t)
    if told is None:
        return [-6]
    if read_book(told[0], u) == []:
        return [-3]
    waiting = [[]]
    before = 0
    book = take_agreeing(told[0], told[1], waiting)
    while book != [] and book_text(book) < u:
        before = before + 1
        book = take_agreeing(told[0], told[1], waiting)
    return [before]


def count(t):
    """How many books agree."""
    if len(t) > MOST_BYTES:
        return [-2]
    told = read_findings(t)
    if told is None:
        return [-6]
    waiting = [[]]
    found = 0
    while take_agreeing(told[0], told[1], waiting) != []:
        found = found + 1
    return [found]


def sure(t, f):
    """2 if f is certain, 1 if it's possible, 0 if neither; -5 if no book agrees."""
    if len(t) > MOST_BYTES or len(f) > MOST_BYTES:
        return [-2]
    told = read_findings(t)
    if told is None:
        return [-6]
    finding = read_finding(told[0], f)
    if finding is None:
        return [-3]
    may_hold = some_agrees(told[0], told[1] + [finding])
    may_fail = some_agrees(told[0], told[1] + [opposite(finding)])
    if not may_hold and not may_fail:
        return [-5]
    if not may_fail:
        return [2]
    return [1] if may_hold else [0]


def why(t, f):
    """The fewest findings from which f follows; -5 if no book agrees, -4 if f isn't certain."""
    if len(t) > MOST_BYTES or len(f) > MOST_BYTES:
        return [-2]
    told = read_findings(t)
    if told is None:
        return [-6]
    finding = read_finding(told[0], f)
    if finding is None:
        return [-3]
    if not some_agrees(told[0], told[1]):
        return [-5]
    # f follows from findings if they rule out every book of which it doesn't hold.
    against = all_against(told[0], told[1], [opposite(finding)])
    if () in against:
        return [-4]
    return told_row(fewest_against(len(told[1]), against))


def clash(t):
    """The fewest findings that clash; 0 alone if some book agrees."""
    if len(t) > MOST_BYTES:
        return [-2]
    told = read_findings(t)
    if told is None:
        return [-6]
    against = all_against(told[0], told[1], [])
    if () in against:
        return [0]
    return told_row(fewest_against(len(told[1]), against))


def where(l, t):
    """The places, the partners and the sides in front that leaf l may have; -5 if no book agrees."""
    if len(t) > MOST_BYTES:
        return [-2]
    told = read_findings(t)
    if told is None:
        return [-6]
    if l < 1 or l > told[0]:
        return [-4]
    lies = all_lies_of_leaf(told[0], told[1], l)
    if lies == []:
        return [-5]
    places = sorted(set([place for place, partner, side in lies]))
    partners = sorted(set([partner for place, partner, side in lies]))
    sides = sorted(set([side for place, partner, side in lies]))
    return told_row(places) + told_row(partners) + told_row(sides)
