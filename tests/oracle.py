"""What the document says, asked of all books listed, with nothing of the program in it.

Books and findings are texts here. A book is looked at through Look, which
reads its text; whether a text is one of findings is told by regular
expressions.
"""
import functools
import itertools
import random
import re


def to_bytes(text):
    return list(text.encode("latin-1"))


def to_text(numbers):
    return bytes(numbers).decode("latin-1")


def answer(book):
    """How a book, or None, is answered."""
    if book is None:
        return [0]
    return [len(book)] + to_bytes(book)


def is_paired(signs):
    signs = signs.replace("|", "")
    while "()" in signs:
        signs = signs.replace("()", "")
    return signs == ""


def layouts(n):
    """All rows of gatherings' signs, such as ("(|)", "|")."""
    found = []
    for signs in itertools.product("|()", repeat=n):
        for cuts in itertools.product((False, True), repeat=n - 1):
            row = signs[0]
            for cut, sign in zip(cuts, signs[1:]):
                row += ("/" if cut else "") + sign
            gatherings = tuple(row.split("/"))
            if all(is_paired(gathering) for gathering in gatherings):
                found.append(gatherings)
    return found


def leaf_text(number, side, sign):
    return ("(" if sign == "(" else "") + str(number) + side + (")" if sign == ")" else "")


def make_book(order, fronts, gatherings):
    leaves = iter(zip(order, fronts))
    texts = []
    for signs in gatherings:
        texts.append(" ".join(leaf_text(*next(leaves), sign) for sign in signs))
    return " / ".join(texts)


@functools.lru_cache(maxsize=None)
def all_books(n):
    """The texts of all books of n leaves, in order."""
    return tuple(sorted(
        make_book(order, fronts, gatherings)
        for order in itertools.permutations(range(1, n + 1))
        for fronts in itertools.product("ab", repeat=n)
        for gatherings in layouts(n)))


class Look:
    """A book as it lies, read from its text."""

    def __init__(self, book):
        self.gatherings = []
        self.pairs = set()
        self.sides = []
        for part in book.split(" / "):
            numbers = []
            waiting = []
            for opens, number, front, closes in re.findall(r"(\(?)(\d+)([ab])(\)?)", part):
                numbers.append(number)
                self.sides += [number + front, number + ("b" if front == "a" else "a")]
                if opens:
                    waiting.append(number)
                if closes:
                    self.pairs.add(frozenset((number, waiting.pop())))
            self.gatherings.append(numbers)
        self.order = [number for numbers in self.gatherings for number in numbers]
        self.following = set(zip(self.sides, self.sides[1:]))
        self.facing = {frozenset(pair) for pair in zip(self.sides[1::2], self.sides[2::2])}


@functools.lru_cache(maxsize=None)
def look_at(book):
    return Look(book)


def holds(finding, look):
    words = finding.split(" ")
    if words[0] == "!":
        return not holds(finding[2:], look)
    if words[0] == "o":
        size = len(words) - 1
        return any(set(look.order[k:k + size]) == set(words[1:]) for k in range(len(look.order) - size + 1))
    if words[0] == "h":
        return all(len(pair & set(words[1:])) != 1 for pair in look.facing)
    if words[1] == "^":
        return words[0] in look.sides[0::2]
    left, sign, right = words
    if sign == ">":
        return (left, right) in look.following
    if sign == "|":
        return frozenset((left, right)) in look.facing
    if sign == "=" and right == "0":
        return all(left not in pair for pair in look.pairs)
    if sign == "=":
        return frozenset((left, right)) in look.pairs
    if sign == "<":
        return look.order.index(left) < look.order.index(right)
    if sign == "~":
        return any(left in numbers and right in numbers for numbers in look.gatherings)
    raise ValueError(finding)


@functools.lru_cache(maxsize=None)
def holding(n, finding):
    """The books of n leaves that it holds of, as bits: bit k stands for number k of all books."""
    if finding.startswith("! "):
        return holding(n, finding[2:]) ^ every_book(n)
    bits = ["1" if holds(finding, look_at(book)) else "0" for book in all_books(n)]
    return int("".join(reversed(bits)), 2)


def every_book(n):
    return (1 << len(all_books(n))) - 1


def bits_of_agreeing(n, findings):
    bits = every_book(n)
    for finding in findings:
        bits &= holding(n, finding)
    return bits


def agreeing(n, findings):
    """The texts of all books of n leaves that agree, in order."""
    bits = bin(bits_of_agreeing(n, findings))[2:]
    return [book for book, bit in zip(all_books(n), reversed(bits)) if bit == "1"]


def certainty(n, findings, f):
    """How sure f is: 2, 1, 0; -5 if no book agrees."""
    bits = bits_of_agreeing(n, findings)
    held = bits & holding(n, f)
    if bits == 0:
        return -5
    if held == bits:
        return 2
    return 1 if held else 0


def first_row(n, findings, books):
    """The numbers of the fewest findings that none of these books (bits) agrees with; None if some agrees with all."""
    for size in range(len(findings) + 1):
        for row in itertools.combinations(range(1, len(findings) + 1), size):
            if books & bits_of_agreeing(n, [findings[number - 1] for number in row]) == 0:
                return list(row)
    return None


def reason(n, findings, f):
    """What why answers."""
    if bits_of_agreeing(n, findings) == 0:
        return [-5]
    row = first_row(n, findings, every_book(n) ^ holding(n, f))
    return [-4] if row is None else [len(row)] + row


def contradiction(n, findings):
    """What clash answers."""
    row = first_row(n, findings, every_book(n))
    return [0] if row is None else [len(row)] + row


def counted(numbers):
    numbers = sorted(set(numbers))
    return [len(numbers)] + numbers


def whereabouts(n, findings, leaf):
    """What where answers of a leaf that there is."""
    looks = [look_at(book) for book in agreeing(n, findings)]
    if not looks:
        return [-5]
    number = str(leaf)
    partners = []
    for look in looks:
        others = [other for pair in look.pairs if number in pair for other in pair if other != number]
        partners.append(int(others[0]) if others else 0)
    return (counted(look.order.index(number) for look in looks) + counted(partners)
            + counted("ab".index(side[-1]) for look in looks for side in look.sides[0::2] if side[:-1] == number))


def text_of(n, findings):
    return to_bytes("".join(line + "\n" for line in [str(n)] + list(findings)))


@functools.lru_cache(maxsize=None)
def plain_findings(n):
    """All findings of n leaves without a !, by kind."""
    leaves = [str(k) for k in range(1, n + 1)]
    sides = [leaf + side for leaf in leaves for side in "ab"]
    two_leaves = list(itertools.permutations(leaves, 2))
    two_sides = list(itertools.permutations(sides, 2))
    return {
        ">": [f"{s} > {t}" for s, t in two_sides],
        "|": [f"{s} | {t}" for s, t in two_sides if s[:-1] != t[:-1]],
        "^": [f"{s} ^" for s in sides],
        "=": [f"{x} = {y}" for x, y in two_leaves],
        "=0": [f"{x} = 0" for x in leaves],
        "<": [f"{x} < {y}" for x, y in two_leaves],
        "~": [f"{x} ~ {y}" for x, y in two_leaves],
        "o": ["o " + " ".join(row) for size in range(2, n + 1) for row in itertools.combinations(leaves, size)],
        "h": ["h " + " ".join(row) for size in range(1, 2 * n + 1) for row in itertools.combinations(sides, size)],
    }


def all_findings(n):
    plain = [finding for kind in plain_findings(n).values() for finding in kind]
    return plain + ["! " + finding for finding in plain]


def some_findings(source, n, most):
    """Some findings drawn by kind, so that the many of one kind don't crowd out the others."""
    kinds = [kind for kind in plain_findings(n).values() if kind]
    drawn = []
    for _ in range(source.randint(0, most)):
        finding = source.choice(source.choice(kinds))
        drawn.append("! " + finding if source.random() < 0.4 else finding)
    return drawn


def drawn_texts(seed, n, most, times):
    source = random.Random(seed)
    return [some_findings(source, n, most) for _ in range(times)]


def true_texts(seed, n, many, times):
    """Rows of so many findings, each row true of some book, drawn by kind."""
    source = random.Random(seed)
    kinds = [kind for kind in plain_findings(n).values() if kind]
    rows = []
    for _ in range(times):
        look = look_at(source.choice(all_books(n)))
        plain = [source.choice(source.choice(kinds)) for _ in range(many)]
        rows.append([finding if holds(finding, look) else "! " + finding for finding in plain])
    return rows


def rises(words):
    keys = [(int(word.rstrip("ab")), word[-1]) if word[-1] in "ab" else (int(word), "") for word in words]
    return all(one < other for one, other in zip(keys, keys[1:]))


def is_finding(n, line):
    leaf = "(?:" + "|".join(str(k) for k in range(1, n + 1)) + ")"
    side = leaf + "[ab]"
    match = re.fullmatch(
        rf"(?:! )?(?:(?P<two>{side} > {side}|{side} \| {side}|{leaf} [=<~] {leaf})|{side} \^|{leaf} = 0"
        rf"|o (?P<row>{leaf}(?: {leaf})+)|h (?P<marks>{side}(?: {side})*))", line)
    if not match:
        return False
    if match["two"]:
        left, sign, right = match["two"].split(" ")
        return left != right if sign == ">" else left.rstrip("ab") != right.rstrip("ab")
    return rises((match["row"] or match["marks"] or "").split(" ")) if match["row"] or match["marks"] else True


def leaves_of_text(text):
    """n if this is a text of findings, else 0."""
    if not re.fullmatch(r"(?:[^\n]*\n)+", text):
        return 0
    lines = text[:-1].split("\n")
    if lines[0] not in [str(k) for k in range(1, 17)] or len(lines) > 65:
        return 0
    n = int(lines[0])
    return n if all(is_finding(n, line) for line in lines[1:]) else 0


def turned_finding(finding):
    if finding.startswith("! "):
        turned = turned_finding(finding[2:])
        return turned[2:] if turned.startswith("! ") else "! " + turned
    words = finding.split(" ")
    if words[1] == "^":
        return "! " + finding
    if words[0] not in ("o", "h") and words[1] in (">", "<"):
        return " ".join(reversed(words))
    return finding


def turned_book(book):
    """The book back to front: its signs, changed for one another, come to stand on the right side by themselves."""
    parts = []
    for part in reversed(book.split(" / ")):
        leaves = []
        for opens, number, front, closes in reversed(re.findall(r"(\(?)(\d+)([ab])(\)?)", part)):
            leaves.append(("(" if closes else "") + number + ("b" if front == "a" else "a") + (")" if opens else ""))
        parts.append(" ".join(leaves))
    return " / ".join(parts)
