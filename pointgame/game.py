"""The game between two structures: which points can be put beside one another.

A two, a point of structure 0 with one of structure 1, has a number. What lies is kept as one
whole number that has the bit of each two: so what lies twice, or in another order, is the same.
Only twos that look alike are ever put down.
"""

NONE_FITS = -1


class Game:
    def __init__(self, left, right):
        self.left = left
        self.right = right
        self.two_count = left.size * right.size
        # For each point of either structure the twos that it's in.
        self.lines = [self.line(0, x) for x in range(left.size)] + [self.line(1, x) for x in range(right.size)]
        self.friends = [self.friends_of(two) for two in range(self.two_count)]
        # By what lies: the twos that can be put beside it so that all look alike.
        self.fitting = {0: self.fitting_alone()}
        self.known = {}

    def two_of(self, a, b):
        return a * self.right.size + b

    # The twos that a point is in, ordered by the points of the other structure.
    def line(self, side, x):
        if side == 0:
            return [self.two_of(x, b) for b in range(self.right.size)]
        return [self.two_of(a, x) for a in range(self.left.size)]

    def same_marks(self, two):
        a = two // self.right.size
        b = two % self.right.size
        return [row[a] for row in self.left.marks] == [row[b] for row in self.right.marks]

    # Whether two twos, or one taken twice, look alike, the marks left aside.
    def are_friends(self, two, other):
        a = two // self.right.size
        b = two % self.right.size
        c = other // self.right.size
        d = other % self.right.size
        if (a == c) != (b == d):
            return False
        return self.left.arcs[a][c] == self.right.arcs[b][d] and self.left.arcs[c][a] == self.right.arcs[d][b]

    def friends_of(self, two):
        return sum([1 << other for other in range(self.two_count) if self.are_friends(two, other)])

    def fitting_alone(self):
        fitting = 0
        for two in range(self.two_count):
            if self.same_marks(two) and self.are_friends(two, two):
                fitting |= 1 << two
        return fitting

    def fits(self, lying, two):
        return (self.fitting[lying] >> two) % 2 == 1

    # What lies once a two that fits is put there.
    def put(self, lying, two):
        both = lying | (1 << two)
        self.fitting[both] = self.fitting[lying] & self.friends[two]
        return both

    def withstands(self, lying, rounds):
        if rounds == 0:
            return True
        if (lying, rounds) not in self.known:
            self.known[(lying, rounds)] = self.all_answered(lying, rounds - 1)
        return self.known[(lying, rounds)]

    def all_answered(self, lying, rounds):
        for line in self.lines:
            if self.answer_in(line, lying, rounds) == NONE_FITS:
                return False
        return True

    # The first place in the line whose two withstands so many rounds beside what lies.
    def answer_in(self, line, lying, rounds):
        for place, two in enumerate(line):
            if self.fits(lying, two) and self.withstands(self.put(lying, two), rounds):
                return place
        return NONE_FITS

    # The least number of rounds, up to most, that isn't withstood; above most if there's none.
    def least_not_withstood(self, most):
        rounds = 1
        while rounds <= most and self.withstands(0, rounds):
            rounds += 1
        return rounds

    def reply(self, side, x, rounds, lie):
        lying = 0
        for at in range(0, len(lie), 2):
            two = self.two_of(lie[at], lie[at + 1])
            if not self.fits(lying, two):
                return NONE_FITS
            lying = self.put(lying, two)
        return self.answer_in(self.line(side, x), lying, rounds)
