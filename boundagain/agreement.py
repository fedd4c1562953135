"""What findings say: how they are written, and whether a book agrees with them.

A side is a whole number: twice its leaf's number, and 1 more if it is side b.
A book is a list with a tuple for each leaf, in order: whether a gathering
begins with it, the side that lies in front, its sign.
A finding is a tuple: whether it holds without a ! before it, its kind (the
byte that tells it), its leaves or sides.
"""

MOST_BYTES = 8192
MOST_LEAVES = 16
MOST_FINDINGS = 64

LINE_FEED = 10
BLANK = 32
SLASH = 47
ZERO = 48
SIDE_A = 97

OPENS = 40
CLOSES = 41
ALONE = 124

NOT = 33
NEXT_SIDE = 62
FACING = 124
FRONT = 94
PARTNERS = 61
BEFORE = 60
TOGETHER = 126
IN_A_ROW = 111
MARKED = 104


def number_text(number):
    """A number from 0 to 99 in decimal."""
    if number < 10:
        return [ZERO + number]
    return [ZERO + number // 10, ZERO + number % 10]


def side_text(side):
    return number_text(side // 2) + [SIDE_A + side % 2]


def book_text(book):
    text = []
    for starts, front, sign in book:
        if text != []:
            text.append(BLANK)
            if starts:
                text.extend([SLASH, BLANK])
        if sign == OPENS:
            text.append(OPENS)
        text.extend(side_text(front))
        if sign == CLOSES:
            text.append(CLOSES)
    return text


def split_at(text, mark):
    """What stands before, between and behind the marks."""
    pieces = []
    piece = []
    for byte in text:
        if byte == mark:
            pieces.append(piece)
            piece = []
        else:
            piece.append(byte)
    pieces.append(piece)
    return pieces


def read_number(most, word):
    """The number from 1 to most that is written so; 0 if none is."""
    for number in range(1, most + 1):
        if word == number_text(number):
            return number
    return 0


def read_side(n, word):
    """The side of n leaves that is written so; 0 if none is."""
    for side in range(2, 2 * n + 2):
        if word == side_text(side):
            return side
    return 0


def is_rising(numbers):
    """Whether each is above 0 and above the one before it."""
    last = 0
    for number in numbers:
        if number <= last:
            return False
        last = number
    return True


def read_sides_pair(n, kind, words):
    """The two sides of S > T or S | T; an empty list if they may not stand there."""
    sides = [read_side(n, words[0]), read_side(n, words[2])]
    if 0 in sides or sides[0] == sides[1]:
        return []
    if kind == FACING and sides[0] // 2 == sides[1] // 2:
        return []
    return sides


def read_leaves_pair(n, kind, words):
    """The two numbers of L = M, L = 0, L < M or L ~ M; an empty list if they may not stand there."""
    leaves = [read_number(n, words[0]), read_number(n, words[2])]
    if leaves[0] == 0 or leaves[0] == leaves[1]:
        return []
    if leaves[1] == 0 and (kind != PARTNERS or words[2] != [ZERO]):
        return []
    return leaves


def read_three(n, words):
    """The kind and parts of a finding whose sign stands between two words, or None."""
    kinds = [kind for kind in (NEXT_SIDE, FACING, PARTNERS, BEFORE, TOGETHER) if words[1] == [kind]]
    if kinds == []:
        return None
    kind = kinds[0]
    if kind == NEXT_SIDE or kind == FACING:
        parts = read_sides_pair(n, kind, words)
    else:
        parts = read_leaves_pair(n, kind, words)
    if parts == []:
        return None
    return (kind, parts)


def read_plain(n, words):
    """The kind and parts of a finding without a ! before it, or None."""
    if len(words) > 2 and words[0] == [IN_A_ROW]:
        leaves = [read_number(n, word) for word in words[1:]]
        return (IN_A_ROW, leaves) if is_rising(leaves) else None
    if len(words) > 1 and words[0] == [MARKED]:
        sides = [read_side(n, word) for word in words[1:]]
        return (MARKED, sides) if is_rising(sides) else None
    if len(words) == 2 and words[1] == [FRONT]:
        side = read_side(n, words[0])
        return (FRONT, [side]) if side != 0 else None
    if len(words) == 3:
        return read_three(n, words)
    return None


def read_finding(n, line):
    """The finding of n leaves that is written so, or None."""
    words = split_at(line, BLANK)
    plain = words[0] != [NOT]
    told = read_plain(n, words if plain else words[1:])
    if told is None:
        return None
    return (plain, told[0], told[1])


def opposite(finding):
    """The finding that holds just where this one doesn't."""
    return (not finding[0], finding[1], finding[2])


def read_findings(t):
    """How many leaves there are and the list of findings, or None if t is no text of findings."""
    lines = split_at(t, LINE_FEED)
    # Behind the last line feed nothing may stand, so the last piece is no line.
    if lines[-1] != [] or len(lines) > MOST_FINDINGS + 2:
        return None
    n = read_number(MOST_LEAVES, lines[0])
    if n == 0:
        return None
    findings = []
    for line in lines[1:-1]:
        finding = read_finding(n, line)
        if finding is None:
            return None
        findings.append(finding)
    return (n, findings)


def sides_in_order(book):
    sides = []
    for starts, front, sign in book:
        back = front + 1 - 2 * (front % 2)
        sides.extend([front, back])
    return sides


def partners_of_leaves(book):
    """Of each leaf its partner; 0 if it is alone."""
    partners = {}
    waiting = []
    for starts, front, sign in book:
        leaf = front // 2
        partners[leaf] = 0
        if sign == OPENS:
            waiting.append(leaf)
        if sign == CLOSES:
            partner = waiting.pop()
            partners[leaf] = partner
            partners[partner] = leaf
    return partners


def gatherings_of_leaves(book):
    """Of each leaf its gathering's number, from 1."""
    gatherings = {}
    number = 0
    for starts, front, sign in book:
        if starts:
            number = number + 1
        gatherings[front // 2] = number
    return gatherings


def place_of(sides, leaf):
    """How many leaves are before it."""
    return sides.index(2 * leaf) // 2


def are_facing(sides, one, other):
    """Whether one is a back, the other the front directly behind it."""
    places = sorted([sides.index(one), sides.index(other)])
    return places[0] % 2 == 1 and places[1] == places[0] + 1


def lie_in_a_row(sides, leaves):
    places = [place_of(sides, leaf) for leaf in leaves]
    return max(places) - min(places) == len(leaves) - 1


def marks_meet(sides, marked):
    """Whether of each back and the front directly behind it both or neither are marked."""
    for k in range(1, len(sides) - 1, 2):
        if (sides[k] in marked) != (sides[k + 1] in marked):
            return False
    return True


def holds(kind, parts, sides, partners, gatherings):
    """Whether a finding without a ! holds of a book whose leaves lie so."""
    if kind == NEXT_SIDE:
        return sides.index(parts[1]) == sides.index(parts[0]) + 1
    if kind == FACING:
        return are_facing(sides, parts[0], parts[1])
    if kind == FRONT:
        return sides.index(parts[0]) % 2 == 0
    if kind == PARTNERS:
        return partners[parts[0]] == parts[1]
    if kind == BEFORE:
        return place_of(sides, parts[0]) < place_of(sides, parts[1])
    if kind == TOGETHER:
        return gatherings[parts[0]] == gatherings[parts[1]]
    if kind == IN_A_ROW:
        return lie_in_a_row(sides, parts)
    return marks_meet(sides, parts)


def agrees(book, findings):
    sides = sides_in_order(book)
    partners = partners_of_leaves(book)
    gatherings = gatherings_of_leaves(book)
    for plain, kind, parts in findings:
        if holds(kind, parts, sides, partners, gatherings) != plain:
            return False
    return True
