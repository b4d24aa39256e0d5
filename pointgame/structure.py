"""A structure: its points, the arcs between them and the marks on them."""

MARK_COUNT = 2


class Structure:
    def __init__(self, size):
        self.size = size
        self.arcs = [[False] * size for point in range(size)]
        self.marks = [[False] * size for mark in range(MARK_COUNT)]

    def has_point(self, x):
        return x >= 0 and x < self.size

    def put_arc(self, x, y, on):
        self.arcs[x][y] = on != 0

    def put_mark(self, m, x, on):
        self.marks[m][x] = on != 0
