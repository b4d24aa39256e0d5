"""Point 11: stones."""

import random
import unittest

from tests import second
from tests.calls import HIGHEST, LOWEST, arc, ask, begin, last, points, stones, told
from tests.pairs import SQUARE, TWO_LINES, clique, order, similar_pair
from tests.second import Plain

# How many stones, of 0 to 3, are withstood for ever at the most; and two structures.
MOST = (
    # without points
    (3, Plain(0), Plain(0)),
    (0, Plain(0), Plain(1)),
    (0, Plain(0), Plain(4, [(0, 1)], [2], [3])),
    # told apart by one point
    (0, Plain(1, [], [0]), Plain(1)),
    (0, Plain(1, [], [], [0]), Plain(1)),
    (0, Plain(1, [(0, 0)]), Plain(1)),
    (0, Plain(4, [(3, 3)]), Plain(4)),
    (0, Plain(4, [], [0], [1]), Plain(4, [], [1], [1])),
    # told apart by two
    (1, Plain(1), Plain(2)),
    (1, Plain(1), Plain(4)),
    (1, Plain(2, [(0, 1)]), Plain(2)),
    (1, Plain(2, [(0, 1)]), Plain(2, [(0, 1), (1, 0)])),
    (1, Plain(2, [(0, 1)], [0]), Plain(2, [(1, 0)], [0])),
    (1, Plain(4, [(0, 1)]), Plain(4, [(0, 1), (2, 3), (0, 3)])),
    # told apart by two that are put anew: two rounds are withstood
    (1, Plain(3, order(3)), Plain(4, order(4))),
    (1, Plain(4, [(0, 1)]), Plain(3, [(0, 1)])),
    (1, Plain(4, [(0, 1), (0, 2)]), Plain(4, [(0, 1)])),
    (1, Plain(4, [(0, 1), (1, 0)]), Plain(3, [(0, 1), (1, 0)])),
    # told apart by three
    (2, Plain(2), Plain(3)),
    (2, Plain(2), Plain(4)),
    (2, Plain(2, clique(2)), Plain(4, clique(4))),
    (2, Plain(3, [(0, 1), (0, 2)]), Plain(4, [(0, 1), (0, 2), (0, 3)])),
    (2, Plain(4, SQUARE), Plain(4, TWO_LINES)),
    # not told apart
    (3, Plain(1), Plain(1)),
    (3, Plain(3), Plain(4)),
    (3, Plain(3, clique(3)), Plain(4, clique(4))),
    (3, Plain(4), Plain(4)),
    (3, Plain(4, SQUARE), Plain(4, [(0, 2), (2, 0), (2, 1), (1, 2), (1, 3), (3, 1), (3, 0), (0, 3)])),
    (3, Plain(4, order(4), [1], [1, 2]), Plain(4, [(y, x) for x, y in order(4)], [2], [1, 2])),
)


def made(left, right):
    return left.calls(0) + right.calls(1)


class StonesTest(unittest.TestCase):
    def test_each_number_of_stones_from_either_side(self):
        for most, left, right in MOST:
            expected = [[int(p <= most)] for p in range(4)]
            for calls in (made(left, right), made(right, left)):
                given = ask(*calls, *[stones(p) for p in range(4)])[-4:]
                self.assertEqual(given, expected, (vars(left), vars(right)))

    def test_no_stone_is_withstood_always(self):
        self.assertEqual(ask(stones(0), points(0, 4), stones(0), arc(0, 1, 1, 1), stones(0), points(1, 1), stones(0)
                             )[::2], [[1]] * 4)

    def test_wrong_p(self):
        for p in (-1, 4, 5, -2, LOWEST, HIGHEST):
            self.assertEqual(ask(stones(p)), [[-1]])
            self.assertEqual(last(*made(Plain(4), Plain(4)), stones(p)), [-1])
            self.assertEqual(last(*made(Plain(0), Plain(4)), stones(p)), [-1])

    def test_stones_put_anew_tell_more_than_as_many_rounds(self):
        calls = made(Plain(3, order(3)), Plain(4, order(4)))
        self.assertEqual(ask(*calls, told(), stones(2))[-2:], [[3], [0]])

    def test_few_stones_tell_less_than_more_rounds(self):
        self.assertEqual(ask(*made(Plain(3), Plain(4)), told(), stones(3))[-2:], [[4], [1]])
        self.assertEqual(ask(*made(Plain(4, SQUARE), Plain(4, TWO_LINES)), told(), stones(2), stones(3))[-3:],
                         [[3], [1], [0]])

    def test_what_changes_changes_the_answer(self):
        given = ask(points(0, 2), stones(1), points(1, 3), stones(2), stones(3), points(1, 2), stones(3),
                    arc(0, 0, 1, 1), stones(2), arc(1, 1, 0, 1), stones(2), begin(), stones(3))
        self.assertEqual([answer[0] for answer in given], [0, 0, 0, 1, 0, 0, 1, 0, 0, 0, 1, 0, 1])

    def test_asking_changes_nothing(self):
        calls = made(Plain(4, SQUARE), Plain(4, TWO_LINES))
        given = ask(*calls, *[stones(p) for p in (3, 4, 2, -1, 3, 2, 1, 0, 3)], told())[-10:]
        self.assertEqual(given, [[0], [-1], [1], [-1], [0], [1], [1], [1], [0], [3]])

    def test_against_the_second_way(self):
        chance = random.Random(40)
        found = {}
        for trial in range(200):
            left, right = similar_pair(chance, 4)
            for p in range(4 if left.size * right.size <= 9 else 3):
                expected = second.stones(left, right, p)
                self.assertEqual(last(*made(left, right), stones(p)), [expected])
                found[p, expected] = found.get((p, expected), 0) + 1
        self.assertEqual(sorted(found), [(0, 1), (1, 0), (1, 1), (2, 0), (2, 1), (3, 0), (3, 1)])

    def test_three_stones_on_four_points_against_the_second_way(self):
        for most, left, right in MOST:
            if left.size * right.size > 9:
                expected = second.stones(left, right, 3)
                self.assertEqual(last(*made(left, right), stones(3)), [expected])


if __name__ == "__main__":
    unittest.main()
