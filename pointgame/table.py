"""What a line of calls is about: two structures and eight slots for sentences.

Each call gives back the list of the numbers that it answers.
"""

from pointgame.game import NONE_FITS, Game
from pointgame.sentence import sentence_of
from pointgame.stones import withstood_for_ever
from pointgame.structure import MARK_COUNT, Structure
from pointgame.truth import is_so

STRUCTURE_COUNT = 2
SLOT_COUNT = 8
MOST_POINTS = 12
MOST_BYTES = 256
MOST_LIE = 6
MOST_STONES = 3
MOST_ROUNDS = 4
# A reply is a round by itself: the twos that lie and the rounds behind it are one fewer.
MOST_BESIDE_REPLY = 3

DONE = 0
OUTSIDE = -1
MISSING = -2


def is_structure(g):
    return g >= 0 and g < STRUCTURE_COUNT


def is_mark(m):
    return m >= 0 and m < MARK_COUNT


def is_slot(slot):
    return slot >= 0 and slot < SLOT_COUNT


def is_byte_count(n):
    return n >= 1 and n <= MOST_BYTES


def is_lie_count(n):
    return n >= 0 and n <= MOST_LIE and n % 2 == 0


def is_round_count(k, two_count):
    return k >= 0 and k <= MOST_BESIDE_REPLY and two_count + k <= MOST_BESIDE_REPLY


class Table:
    def __init__(self):
        self.structures = []
        self.sentences = []
        self.begin()

    def begin(self):
        self.structures = [Structure(0) for g in range(STRUCTURE_COUNT)]
        self.sentences = [None] * SLOT_COUNT
        return [DONE]

    def points(self, g, n):
        if not is_structure(g) or n < 0 or n > MOST_POINTS:
            return [OUTSIDE]
        self.structures[g] = Structure(n)
        return [DONE]

    def has_point(self, g, x):
        return is_structure(g) and self.structures[g].has_point(x)

    def arc(self, g, x, y, on):
        if not self.has_point(g, x) or not self.has_point(g, y):
            return [OUTSIDE]
        self.structures[g].put_arc(x, y, on)
        return [DONE]

    def mark(self, g, m, x, on):
        if not is_mark(m) or not self.has_point(g, x):
            return [OUTSIDE]
        self.structures[g].put_mark(m, x, on)
        return [DONE]

    def form(self, slot, n, codes):
        if not is_slot(slot) or not is_byte_count(n):
            return [OUTSIDE]
        sentence = sentence_of(codes)
        if sentence is None:
            return [MISSING]
        self.sentences[slot] = sentence
        return [DONE]

    # What a call that needs the slot's sentence is refused with; empty if it's there.
    def refusal(self, slot):
        if not is_slot(slot):
            return [OUTSIDE]
        if self.sentences[slot] is None:
            return [MISSING]
        return []

    def text(self, slot, most):
        refused = self.refusal(slot)
        if len(refused) > 0:
            return refused
        codes = self.sentences[slot].codes
        if not is_byte_count(most):
            return [len(codes)]
        return [len(codes)] + codes[:most]

    def rank(self, slot):
        refused = self.refusal(slot)
        if len(refused) > 0:
            return refused
        return [self.sentences[slot].depth]

    def holds(self, g, slot):
        if not is_structure(g):
            return [OUTSIDE]
        refused = self.refusal(slot)
        if len(refused) > 0:
            return refused
        return [1 if is_so(self.sentences[slot], self.structures[g]) else 0]

    def game(self):
        return Game(self.structures[0], self.structures[1])

    def told(self):
        rounds = self.game().least_not_withstood(MOST_ROUNDS)
        return [rounds if rounds <= MOST_ROUNDS else MISSING]

    def can_lie(self, lie):
        return all([self.has_point(at % STRUCTURE_COUNT, x) for at, x in enumerate(lie)])

    def reply(self, side, x, k, n, lie):
        if not self.has_point(side, x) or not is_lie_count(n) or not is_round_count(k, n // 2):
            return [OUTSIDE]
        if not self.can_lie(lie):
            return [OUTSIDE]
        point = self.game().reply(side, x, k, lie)
        return [MISSING if point == NONE_FITS else point]

    def stones(self, p):
        if p < 0 or p > MOST_STONES:
            return [OUTSIDE]
        return [1 if withstood_for_ever(self.game(), p) else 0]
