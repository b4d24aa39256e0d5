"""Structures that the tests of the game share."""

from tests.second import Plain

SQUARE = [(0, 1), (1, 0), (1, 2), (2, 1), (2, 3), (3, 2), (3, 0), (0, 3)]
TWO_LINES = [(0, 3), (3, 0), (1, 2), (2, 1)]


def clique(size):
    """Arcs from every point to every other."""
    return [(x, y) for x in range(size) for y in range(size) if x != y]


def order(size):
    """Arcs from every point to all that come behind it."""
    return [(x, y) for x in range(size) for y in range(x + 1, size)]


def some_plain(chance, size):
    # Structures of few kinds of points need more rounds to be told apart than others.
    kinds = [chance.randrange(chance.choice((1, 1, 2, 4))) for x in range(size)]
    linked = [[chance.random() < 0.4 for there in range(4)] for here in range(4)]
    marked = [[chance.random() < 0.2 for kind in range(4)] for m in (0, 1)]
    arcs = [(x, y) for x in range(size) for y in range(size) if linked[kinds[x]][kinds[y]] and x != y]
    return Plain(size, arcs, *[[x for x in range(size) if marked[m][kinds[x]]] for m in (0, 1)])


def renumbered(chance, plain):
    places = list(range(plain.size))
    chance.shuffle(places)
    return Plain(plain.size, [(places[x], places[y]) for x, y in sorted(plain.arcs)],
                 *[[places[x] for x in sorted(marked)] for marked in plain.marks])


def with_a_twin(plain):
    """The structure with one more point that's like its last one."""
    twin = plain.size
    old = {x: x for x in range(twin)} | {twin: twin - 1}
    arcs = [(x, y) for x in old for y in old if x != y and (old[x], old[y]) in plain.arcs]
    return Plain(twin + 1, arcs, *[[x for x in old if old[x] in marked] for marked in plain.marks])


def similar_pair(chance, most):
    """Two structures that are the same, differ a little, or have nothing to do with one another."""
    left = some_plain(chance, chance.randrange(most + 1))
    choice = chance.random()
    if choice < 0.2:
        right = some_plain(chance, chance.randrange(most + 1))
    elif choice < 0.5 and 0 < left.size < most:
        right = renumbered(chance, with_a_twin(left))
    else:
        right = renumbered(chance, left)
        if choice > 0.7 and left.size:
            right.arcs ^= {(chance.randrange(left.size), chance.randrange(left.size))}
    return (left, right) if chance.random() < 0.5 else (right, left)
