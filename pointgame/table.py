"""What a line of calls is about: two structures and eight slots for sentences.

Each call gives back the list of the numbers that it answers.
"""

from pointgame.sentence import is_sentence
from pointgame.structure import MARK_COUNT, Structure

STRUCTURE_COUNT = 2
SLOT_COUNT = 8
MOST_POINTS = 12
MOST_BYTES = 256

DONE = 0
OUTSIDE = -1
MISSING = -2


def is_structure(g):
    return g >= 0 and g < STRUCTURE_COUNT


def is_mark(m):
    return m >= 0 and m < MARK_COUNT


def is_slot(slot):
    return slot >= 0 and slot < SLOT_COUNT


def is_byte_count(n):
    return n >= 1 and n <= MOST_BYTES


class Table:
    def __init__(self):
        self.structures = []
        self.sentences = []
        self.begin()

    def begin(self):
        self.structures = [Structure(0) for g in range(STRUCTURE_COUNT)]
        self.sentences = [None] * SLOT_COUNT
        return [DONE]

    def points(self, g, n):
        if not is_structure(g) or n < 0 or n > MOST_POINTS:
            return [OUTSIDE]
        self.structures[g] = Structure(n)
        return [DONE]

    def has_point(self, g, x):
        return is_structure(g) and self.structures[g].has_point(x)

    def arc(self, g, x, y, on):
        if not self.has_point(g, x) or not self.has_point(g, y):
            return [OUTSIDE]
        self.structures[g].put_arc(x, y, on)
        return [DONE]

    def mark(self, g, m, x, on):
        if not is_mark(m) or not self.has_point(g, x):
            return [OUTSIDE]
        self.structures[g].put_mark(m, x, on)
        return [DONE]

    def form(self, slot, n, codes):
        if not is_slot(slot) or not is_byte_count(n):
            return [OUTSIDE]
        if not is_sentence(codes):
            return [MISSING]
        self.sentences[slot] = codes
        return [DONE]

    def text(self, slot, most):
        if not is_slot(slot):
            return [OUTSIDE]
        codes = self.sentences[slot]
        if codes is None:
            return [MISSING]
        if not is_byte_count(most):
            return [len(codes)]
        return [len(codes)] + codes[:most]
