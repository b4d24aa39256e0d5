"""Tells whether a sentence is so of a structure.

A formula within some A and S is so, or isn't, for each way of putting points for their names.
A table tells for which: it has one whole number for each point put for the innermost name, and
in that number one bit for each way of putting points for the outer names. So many ways are gone
through at once: there are 20736 of putting 12 points for four names.

The bit of a way is found at the sum of its points, each times the number of ways for the names
outside of its own. The table of a formula within no A or S is one number of one bit.
"""

from pointgame.sentence import MOST_DEPTH


class Truth:
    def __init__(self, structure):
        self.structure = structure
        self.size = structure.size
        # In how many ways points can be put for none, one, two and three names.
        self.ways = [1]
        for names in range(1, MOST_DEPTH):
            self.ways.append(self.ways[-1] * self.size)

    def all_ways(self, names):
        return (1 << self.ways[names]) - 1

    # The whole table as one number, in which the innermost name counts like the others.
    def joined(self, table, depth):
        number = 0
        for x, part in enumerate(table):
            number |= part << (x * self.ways[depth - 1])
        return number

    # The table that joined makes this number of.
    def parted(self, number, depth):
        if depth == 0:
            return [number]
        every = self.all_ways(depth - 1)
        return [(number >> (x * self.ways[depth - 1])) & every for x in range(self.size)]

    def related(self, sign, x, y):
        if sign == "E":
            return self.structure.arcs[x][y]
        if sign == "=":
            return x == y
        return self.structure.marks[0 if sign == "P" else 1][x]

    # The points that, put for the outer name of the step, make it so beside the inner one.
    def related_to(self, step, inner_point):
        if step.levels[0] < step.levels[-1]:
            return [x for x in range(self.size) if self.related(step.sign, x, inner_point)]
        return [y for y in range(self.size) if self.related(step.sign, inner_point, y)]

    # The ways for so many names that put one of the members for the name at the level.
    def ways_with(self, members, level, names):
        number = 0
        for x in members:
            number |= self.all_ways(level) << (x * self.ways[level])
        for depth in range(level + 2, names + 1):
            number = self.joined([number] * self.size, depth)
        return number

    def row_of(self, step, inner_point):
        outer = min(step.levels)
        inner = max(step.levels)
        if outer < inner:
            return self.ways_with(self.related_to(step, inner_point), outer, inner)
        if self.related(step.sign, inner_point, inner_point):
            return self.all_ways(inner)
        return 0

    # The table of a formula that's E, P, Q or =.
    def table_of(self, step):
        nearest = max(step.levels) + 1
        table = [self.row_of(step, x) for x in range(self.size)]
        # Whatever is put for names further within makes no difference.
        for depth in range(nearest, step.depth):
            table = [self.joined(table, depth)] * self.size
        return table

    def opposite(self, table, depth):
        every = self.all_ways(max(depth - 1, 0))
        return [every ^ part for part in table]

    def over_points(self, step, table):
        if step.sign == "A":
            number = self.all_ways(step.depth - 1)
            for part in table:
                number &= part
        else:
            number = 0
            for part in table:
                number |= part
        return self.parted(number, step.depth - 1)

    # Puts the step's table in the place of those that it's made of, the last ones.
    def work(self, step, tables):
        if len(step.levels) > 0:
            tables.append(self.table_of(step))
            return
        table = tables.pop()
        if step.sign == "!":
            tables.append(self.opposite(table, step.depth))
        elif step.sign == "&":
            tables.append([part & other for part, other in zip(tables.pop(), table)])
        elif step.sign == "|":
            tables.append([part | other for part, other in zip(tables.pop(), table)])
        else:
            tables.append(self.over_points(step, table))


def is_so(sentence, structure):
    truth = Truth(structure)
    tables = []
    for step in sentence.steps:
        truth.work(step, tables)
    return tables[0] == [1]
