"""Tells whether a text is a sentence.

What is still expected stands in a list, and a loop goes through it: a text may nest
formulas deeper than calls should nest.
"""

MOST_DEPTH = 4

NAMES = ("u", "v", "w", "x", "y", "z")

SIGNS = {
    33: "!", 38: "&", 40: "(", 41: ")", 61: "=", 65: "A", 69: "E", 80: "P", 81: "Q", 83: "S",
    117: "u", 118: "v", 119: "w", 120: "x", 121: "y", 122: "z", 124: "|",
}

# What has to follow the sign that a formula begins with.
FOLLOWING = {
    "E": ("name", "name"),
    "P": ("name",),
    "Q": ("name",),
    "=": ("name", "name"),
    "!": ("formula",),
    "(": ("formula", "join", "formula", "close"),
    "A": ("binder", "formula", "leave"),
    "S": ("binder", "formula", "leave"),
}


class Reader:
    def __init__(self, codes):
        # The empty text stands for bytes that are no sign and for the end: it fits nowhere,
        # so the reader never goes beyond the end.
        self.signs = [SIGNS.get(code, "") for code in codes] + [""]
        self.at = 0
        self.expected = ["formula"]
        self.scope = []

    def at_end(self):
        return self.at == len(self.signs) - 1

    def advance(self):
        part = self.expected.pop()
        if part == "leave":
            self.scope.pop()
            return True
        sign = self.signs[self.at]
        self.at += 1
        return self.fits(part, sign)

    def fits(self, part, sign):
        if part == "formula":
            return self.begin_formula(sign)
        if part == "binder":
            return self.bind(sign)
        if part == "name":
            return sign in self.scope
        if part == "join":
            return sign == "&" or sign == "|"
        return sign == ")"

    def begin_formula(self, sign):
        if sign not in FOLLOWING:
            return False
        for part in reversed(FOLLOWING[sign]):
            self.expected.append(part)
        return True

    def bind(self, sign):
        if sign not in NAMES or len(self.scope) == MOST_DEPTH:
            return False
        self.scope.append(sign)
        return True


def is_sentence(codes):
    reader = Reader(codes)
    while len(reader.expected) > 0:
        if not reader.advance():
            return False
    return reader.at_end()
