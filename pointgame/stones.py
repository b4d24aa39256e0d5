"""Tells whether so many stones are withstood for ever.

All that can lie is gone through, and whatever has a round that can't be answered any more is
struck out until nothing changes. Stones that lie on the same two count as one that lies: the
others are as good as not lying.
"""


# All that can lie with p stones, each with how many twos these are.
def all_lying(game, p):
    counts = {0: 0}
    for count in range(1, p + 1):
        for lying in list(counts):
            for two in range(game.two_count):
                if game.fits(lying, two):
                    counts.setdefault(game.put(lying, two), count)
    return counts


# What may lie once a stone is taken up: one of those that lie, or one that doesn't.
def rests(game, lying, has_spare):
    left = [lying ^ (1 << two) for two in range(game.two_count) if (lying >> two) % 2 == 1]
    if has_spare:
        left.append(lying)
    return left


# Whether, at whatever point the stone in hand is put, there's one to choose beside it.
def is_answered(game, rest, alive):
    for line in game.lines:
        if not any([(rest | (1 << two)) in alive for two in line]):
            return False
    return True


def lost_among(game, counts, p, alive):
    answered = {}
    for rest in counts:
        answered[rest] = counts[rest] < p and is_answered(game, rest, alive)
    lost = []
    for lying in alive:
        if not all([answered[rest] for rest in rests(game, lying, counts[lying] < p)]):
            lost.append(lying)
    return lost


def withstood_for_ever(game, p):
    counts = all_lying(game, p)
    alive = dict(counts)
    lost = lost_among(game, counts, p, alive)
    while len(lost) > 0:
        for lying in lost:
            alive.pop(lying)
        lost = lost_among(game, counts, p, alive)
    return 0 in alive
