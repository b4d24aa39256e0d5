"""Reads a text as a sentence: its depth, and the steps in which it can be worked out.

What is still expected stands in a list, and a loop goes through it: a text may nest
formulas deeper than calls should nest. For the same reason a sentence is kept as steps one
behind another, each formula behind those that it's made of.
"""

MOST_DEPTH = 4

NAMES = ("u", "v", "w", "x", "y", "z")

SIGNS = {
    33: "!", 38: "&", 40: "(", 41: ")", 61: "=", 65: "A", 69: "E", 80: "P", 81: "Q", 83: "S",
    117: "u", 118: "v", 119: "w", 120: "x", 121: "y", 122: "z", 124: "|",
}

# What has to follow the sign that a formula begins with.
FOLLOWING = {
    "E": ("name", "name", "end"),
    "P": ("name", "end"),
    "Q": ("name", "end"),
    "=": ("name", "name", "end"),
    "!": ("formula", "end"),
    "(": ("formula", "join", "formula", "close", "end"),
    "A": ("binder", "formula", "end", "leave"),
    "S": ("binder", "formula", "end", "leave"),
}


# One formula: its sign (& or | of one in brackets), and how many names are bound where it stands
# (for A and S, where the formula within them stands). The levels say which A or S its own names
# belong to, 0 being the outermost; only E, P, Q and = have any.
class Step:
    def __init__(self, sign, depth, levels):
        self.sign = sign
        self.depth = depth
        self.levels = levels


class Sentence:
    def __init__(self, codes, depth, steps):
        self.codes = codes
        self.depth = depth
        self.steps = steps


class Reader:
    def __init__(self, codes):
        # The empty text stands for bytes that are no sign and for the end: it fits nowhere,
        # so the reader never goes beyond the end.
        self.signs = [SIGNS.get(code, "") for code in codes] + [""]
        self.at = 0
        self.expected = ["formula"]
        self.scope = []
        self.deepest = 0
        self.begun = []
        self.read_levels = []
        self.done = []

    def at_end(self):
        return self.at == len(self.signs) - 1

    def advance(self):
        part = self.expected.pop()
        if part == "end":
            self.end_formula()
            return True
        if part == "leave":
            self.scope.pop()
            return True
        sign = self.signs[self.at]
        self.at += 1
        return self.fits(part, sign)

    def fits(self, part, sign):
        if part == "formula":
            return self.begin_formula(sign)
        if part == "binder":
            return self.bind(sign)
        if part == "name":
            return self.refer(sign)
        if part == "join":
            return self.join_by(sign)
        return sign == ")"

    def begin_formula(self, sign):
        if sign not in FOLLOWING:
            return False
        self.begun.append(sign)
        for part in reversed(FOLLOWING[sign]):
            self.expected.append(part)
        return True

    def end_formula(self):
        self.done.append(Step(self.begun.pop(), len(self.scope), self.read_levels))
        self.read_levels = []

    def bind(self, sign):
        if sign not in NAMES or len(self.scope) == MOST_DEPTH:
            return False
        self.scope.append(sign)
        self.deepest = max(self.deepest, len(self.scope))
        return True

    def refer(self, sign):
        levels = [level for level, name in enumerate(self.scope) if name == sign]
        if len(levels) == 0:
            return False
        # The nearest is meant.
        self.read_levels.append(levels[-1])
        return True

    def join_by(self, sign):
        if sign != "&" and sign != "|":
            return False
        # The bracket tells nothing by itself: the formula is known by its joining sign.
        self.begun.pop()
        self.begun.append(sign)
        return True


# The sentence that the text is, or None.
def sentence_of(codes):
    reader = Reader(codes)
    while len(reader.expected) > 0:
        if not reader.advance():
            return None
    if not reader.at_end():
        return None
    return Sentence(codes, reader.deepest, reader.done)
