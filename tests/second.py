"""A second way to all the answers, against which the program's are held.

It goes straight along the document's words: one way of putting points, one round and one stone
after another. So it's slower than the program, and far too slow for the largest of its inputs.
"""

import functools

NAMES = "uvwxyz"


class Plain:
    """A structure."""

    def __init__(self, size, arcs=(), first=(), second=()):
        self.size = size
        self.arcs = set(arcs)
        self.marks = (set(first), set(second))

    def calls(self, g):
        made = [[1, g, self.size]]
        made += [[2, g, x, y, 1] for x, y in sorted(self.arcs)]
        made += [[3, g, m, x, 1] for m in (0, 1) for x in sorted(self.marks[m])]
        return made

    def marks_at(self, x):
        return [x in marked for marked in self.marks]


@functools.lru_cache(4096)
def measure(signs, at=0):
    """Where the formula at a place ends, its free names and its depth; None if there's none.

    Unlike the program it collects free names from within outwards.
    """
    sign = signs[at:at + 1]
    if sign in ("P", "Q", "E", "="):
        names = signs[at + 1:at + (2 if sign in ("P", "Q") else 3)]
        fits = len(names) == (1 if sign in ("P", "Q") else 2) and all(name in NAMES for name in names)
        return (at + 1 + len(names), frozenset(names), 0) if fits else None
    if sign == "!":
        return measure(signs, at + 1)
    if sign in ("A", "S"):
        name = signs[at + 1:at + 2]
        inner = measure(signs, at + 2) if name and name in NAMES else None
        return inner and (inner[0], inner[1] - {name}, inner[2] + 1)
    if sign != "(":
        return None
    left = measure(signs, at + 1)
    if not left or signs[left[0]:left[0] + 1] not in ("&", "|"):
        return None
    right = measure(signs, left[0] + 1)
    if not right or signs[right[0]:right[0] + 1] != ")":
        return None
    return (right[0] + 1, left[1] | right[1], max(left[2], right[2]))


def is_sentence(signs):
    found = measure(signs)
    return bool(found) and found[0] == len(signs) and not found[1] and found[2] <= 4


def depth_of(signs):
    return measure(signs)[2]


def is_so(signs, plain, at=0, put=None):
    """Whether the formula that begins at a place is so, with points put for its free names."""
    sign = signs[at]
    put = put or {}
    if sign == "P" or sign == "Q":
        return put[signs[at + 1]] in plain.marks["PQ".index(sign)]
    if sign == "E":
        return (put[signs[at + 1]], put[signs[at + 2]]) in plain.arcs
    if sign == "=":
        return put[signs[at + 1]] == put[signs[at + 2]]
    if sign == "!":
        return not is_so(signs, plain, at + 1, put)
    if sign == "(":
        middle = measure(signs, at + 1)[0]
        left = is_so(signs, plain, at + 1, put)
        right = is_so(signs, plain, middle + 1, put)
        return (left and right) if signs[middle] == "&" else (left or right)
    each = [is_so(signs, plain, at + 2, {**put, signs[at + 1]: x}) for x in range(plain.size)]
    return all(each) if sign == "A" else any(each)


def look_alike(left, right, twos):
    for a, b in twos:
        if left.marks_at(a) != right.marks_at(b):
            return False
        for c, d in twos:
            if (a == c) != (b == d) or ((a, c) in left.arcs) != ((b, d) in right.arcs):
                return False
    return True


def withstanding(left, right):
    """A function that tells whether twos that lie withstand so many rounds."""
    @functools.lru_cache(None)
    def withstand(twos, k):
        if not look_alike(left, right, twos):
            return False
        if k == 0:
            return True
        good = [[withstand(twos | {(a, b)}, k - 1) for b in range(right.size)] for a in range(left.size)]
        from_left = all(any(row) for row in good)
        return from_left and all(any(row[b] for row in good) for b in range(right.size))

    return withstand


def told(left, right):
    withstand = withstanding(left, right)
    for rounds in range(5):
        if not withstand(frozenset(), rounds):
            return rounds
    return -2


def reply(left, right, side, x, k, lie):
    """The answer where nothing is refused with -1."""
    withstand = withstanding(left, right)
    twos = frozenset(zip(lie[::2], lie[1::2]))
    for y in range((right, left)[side].size):
        if withstand(twos | {(x, y) if side == 0 else (y, x)}, k):
            return y
    return -2


def stones(left, right, p):
    """Each stone by itself is on a two or on none; what can't go on for so many rounds is left out."""
    every = [(a, b) for a in range(left.size) for b in range(right.size)]
    states = {(None,) * p}
    for stone in range(p):
        states |= {state[:stone] + (two,) + state[stone + 1:] for state in states for two in every}
    good = {state for state in states if look_alike(left, right, [two for two in state if two])}
    before = None
    while good != before:
        before = good
        good = {state for state in good if goes_on(left, right, state, before)}
    return int((None,) * p in good)


def goes_on(left, right, state, good):
    def put(stone, two):
        return state[:stone] + (two,) + state[stone + 1:] in good

    for stone in range(len(state)):
        for a in range(left.size):
            if not any(put(stone, (a, b)) for b in range(right.size)):
                return False
        for b in range(right.size):
            if not any(put(stone, (a, b)) for a in range(left.size)):
                return False
    return True


class Line:
    """A whole line of calls: each is asked as its list of numbers and answered as such a list."""

    def __init__(self):
        self.begin()

    def ask(self, call):
        names = ("begin", "points", "arc", "mark", "form", "text", "rank", "holds", "told", "reply", "stones")
        given = getattr(self, names[call[0]])(*call[1:])
        return given if isinstance(given, list) else [given]

    def begin(self):
        self.plains = [Plain(0), Plain(0)]
        self.slots = {}
        return 0

    def points(self, g, n):
        if g not in (0, 1) or not 0 <= n <= 12:
            return -1
        self.plains[g] = Plain(n)
        return 0

    def has(self, g, *given):
        return g in (0, 1) and all(0 <= x < self.plains[g].size for x in given)

    def arc(self, g, x, y, on):
        if not self.has(g, x, y):
            return -1
        (self.plains[g].arcs.add if on else self.plains[g].arcs.discard)((x, y))
        return 0

    def mark(self, g, m, x, on):
        if not self.has(g, x) or m not in (0, 1):
            return -1
        (self.plains[g].marks[m].add if on else self.plains[g].marks[m].discard)(x)
        return 0

    def form(self, slot, n, count, *codes):
        if not 0 <= slot <= 7 or not 1 <= n <= 256:
            return -1
        signs = "".join(map(chr, codes))
        if not is_sentence(signs):
            return -2
        self.slots[slot] = signs
        return 0

    def of_slot(self, slot, found):
        if not 0 <= slot <= 7:
            return -1
        return found(self.slots[slot]) if slot in self.slots else -2

    def text(self, slot, most):
        shown = most if 1 <= most <= 256 else 0
        return self.of_slot(slot, lambda signs: [len(signs)] + [ord(sign) for sign in signs[:shown]])

    def rank(self, slot):
        return self.of_slot(slot, depth_of)

    def holds(self, g, slot):
        if g not in (0, 1):
            return -1
        return self.of_slot(slot, lambda signs: int(is_so(signs, self.plains[g])))

    def told(self):
        return told(*self.plains)

    def reply(self, side, x, k, n, count, *lie):
        if not self.has(side, x) or n not in (0, 2, 4, 6) or k not in (0, 1, 2, 3) or n // 2 + k > 3:
            return -1
        if not self.has(0, *lie[::2]) or not self.has(1, *lie[1::2]):
            return -1
        return reply(*self.plains, side, x, k, lie)

    def stones(self, p):
        return stones(*self.plains, p) if p in (0, 1, 2, 3) else -1
