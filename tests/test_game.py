"""Points 9 and 10: told and reply."""

import random
import unittest

from tests import second
from tests.calls import (HIGHEST, LOWEST, arc, ask, form, holds, last, mark, points, reply, reply_without_row,
                         structure, told)
from tests.pairs import SQUARE, TWO_LINES, clique, order, similar_pair
from tests.second import Plain

# What told answers, and two structures.
TOLD = (
    (-2, Plain(0), Plain(0)),
    (1, Plain(0), Plain(1)),
    (1, Plain(0), Plain(4)),
    (1, Plain(0), Plain(4, [(0, 0)], [1], [2])),
    (-2, Plain(1), Plain(1)),
    (-2, Plain(4), Plain(4)),
    # by marks alone
    (1, Plain(1, [], [0]), Plain(1)),
    (1, Plain(1, [], [], [0]), Plain(1)),
    (1, Plain(1, [], [0]), Plain(1, [], [], [0])),
    (1, Plain(2, [], [0], [0]), Plain(2, [], [0], [1])),
    (1, Plain(4, [], [0, 1, 2, 3]), Plain(4, [], [0, 1, 3])),
    (2, Plain(4, [], [0]), Plain(4, [], [0, 3])),
    (1, Plain(4, [], [0, 1]), Plain(4, [], [1], [0])),
    (2, Plain(4, [], [0, 1, 2]), Plain(4, [], [1, 3])),
    (3, Plain(3, [], [0, 1, 2], [0]), Plain(4, [], [0, 1, 2, 3], [3])),
    (-2, Plain(4, [], [0, 2], [2, 3]), Plain(4, [], [3, 1], [1, 0])),
    # by the number of points alone
    (2, Plain(1), Plain(2)),
    (2, Plain(1), Plain(4)),
    (3, Plain(2), Plain(3)),
    (3, Plain(2), Plain(4)),
    (4, Plain(3), Plain(4)),
    (4, Plain(3, clique(3)), Plain(4, clique(4))),
    (4, Plain(3, [], [0, 1, 2]), Plain(4, [], [0, 1, 2, 3])),
    (3, Plain(3, [], [0]), Plain(4, [], [0])),
    # by arcs from a point to itself
    (1, Plain(1, [(0, 0)]), Plain(1)),
    (1, Plain(4, [(3, 3)]), Plain(4)),
    (2, Plain(4, [(3, 3)]), Plain(4, [(0, 0), (1, 1)])),
    (-2, Plain(4, [(3, 3)]), Plain(4, [(1, 1)])),
    # by an arc, and by its direction alone
    (2, Plain(2, [(0, 1)]), Plain(2)),
    (2, Plain(2, [(0, 1)]), Plain(2, [(0, 1), (1, 0)])),
    (-2, Plain(2, [(0, 1)]), Plain(2, [(1, 0)])),
    (2, Plain(2, [(0, 1)], [0]), Plain(2, [(1, 0)], [0])),
    (2, Plain(2, [(0, 1), (0, 0)]), Plain(2, [(1, 0), (0, 0)])),
    (2, Plain(3, [(0, 1), (0, 2)]), Plain(3, [(1, 0), (2, 0)])),
    (2, Plain(3, [(0, 1), (1, 2), (2, 0)]), Plain(3, order(3))),
    (-2, Plain(3, [(0, 1), (1, 2), (2, 0)]), Plain(3, [(1, 0), (2, 1), (0, 2)])),
    # by arcs, only with more rounds
    (3, Plain(3, order(3)), Plain(4, order(4))),
    (3, Plain(4, SQUARE), Plain(4, TWO_LINES)),
    (3, Plain(4, [(0, 1), (0, 2)]), Plain(4, [(0, 1)])),
    (3, Plain(4, [(0, 1)]), Plain(3, [(0, 1)])),
)


def made(left, right):
    return left.calls(0) + right.calls(1)


class ToldTest(unittest.TestCase):
    def test_each_answer_from_either_side(self):
        for expected, left, right in TOLD:
            shown = (expected, vars(left), vars(right))
            self.assertEqual(last(*made(left, right), told()), [expected], shown)
            self.assertEqual(last(*made(right, left), told()), [expected], shown)

    def test_each_answer_that_can_come_is_among_them(self):
        self.assertEqual({row[0] for row in TOLD}, {1, 2, 3, 4, -2})

    def test_right_after_begin(self):
        self.assertEqual(ask(told()), [[-2]])

    def test_a_structure_against_itself_renumbered(self):
        arcs = [(0, 1), (1, 2), (2, 2), (3, 0), (0, 3)]
        for places in ((0, 1, 2, 3), (3, 2, 1, 0), (1, 3, 0, 2), (2, 0, 3, 1)):
            left = Plain(4, arcs, [0, 1], [1, 3])
            right = Plain(4, [(places[x], places[y]) for x, y in arcs], [places[0], places[1]],
                          [places[1], places[3]])
            self.assertEqual(last(*made(left, right), told()), [-2])

    def test_what_changes_changes_the_answer(self):
        given = ask(points(0, 2), told(), points(1, 3), told(), points(1, 2), told(), arc(0, 1, 0, 1), told(),
                    arc(1, 0, 1, 1), told(), mark(1, 1, 0, 1), told(), mark(0, 1, 0, 1), told(),
                    mark(0, 1, 0, 0), mark(0, 1, 1, 1), told(), points(0, 0), told(), points(1, 0), told())
        self.assertEqual([answer[0] for answer in given],
                         [0, 1, 0, 3, 0, -2, 0, 2, 0, -2, 0, 1, 0, 2, 0, 0, -2, 0, 1, 0, -2])

    def test_asking_twice(self):
        for expected, left, right in TOLD:
            self.assertEqual(ask(*made(left, right), told(), told())[-2:], [[expected]] * 2)

    def test_against_the_second_way(self):
        chance = random.Random(30)
        found = {}
        for trial in range(250):
            left, right = similar_pair(chance, 4)
            expected = second.told(left, right)
            self.assertEqual(last(*made(left, right), told()), [expected])
            found[expected] = found.get(expected, 0) + 1
        self.assertEqual(set(found), {1, 2, 3, 4, -2})

    def test_sentences_of_less_depth_tell_nothing_apart(self):
        sentences = {1: ("SxPx", "AxQx", "SxExx", "Ax(Px|!Exx)"),
                     2: ("SxSy!=xy", "AxSyExy", "SxAyExy", "SxSy(Exy&!Eyx)", "AxAy(!Exy|Eyx)", "SxAy(=xy|Eyx)"),
                     3: ("SxSySz((!=xy&!=yz)&!=xz)", "AxAyAz(!(Exy&Eyz)|Exz)", "AxSySz((Exy&Exz)&!=yz)",
                         "SxSySz((Exy&Eyz)&(!=xy&!=yz))")}
        apart = {depth: 0 for depth in sentences}
        for expected, left, right in TOLD:
            for depth, row in sentences.items():
                for sentence in row:
                    given = ask(*made(left, right), form(0, sentence), told(), holds(0, 0), holds(1, 0))[-3:]
                    if given[1] != given[2]:
                        apart[depth] += 1
                        self.assertIn(given[0][0], range(1, depth + 1))
        self.assertGreater(min(apart.values()), 2)


class ReplyTest(unittest.TestCase):
    def setUp(self):
        self.bare = made(Plain(4), Plain(4))

    def test_the_least_of_several(self):
        for k in range(4):
            for x in range(4):
                self.assertEqual(last(*self.bare, reply(0, x, k)), [0])
                self.assertEqual(last(*self.bare, reply(1, x, k)), [0])

    def test_the_least_that_does_not_lie(self):
        for side, x, k, lie, expected in (
                (0, 0, 2, (2, 0), 1), (0, 3, 2, (2, 1), 0), (1, 0, 2, (0, 2), 1), (1, 3, 2, (1, 2), 0),
                (0, 0, 1, (2, 0, 1, 1), 2), (0, 0, 1, (2, 1, 1, 0), 2), (0, 0, 1, (2, 3, 1, 0), 1),
                (1, 1, 1, (0, 0, 1, 2), 2), (1, 1, 1, (3, 0, 1, 2), 0),
                (0, 3, 0, (0, 0, 1, 1, 2, 2), 3), (0, 3, 0, (0, 3, 1, 0, 2, 1), 2), (1, 0, 0, (0, 3, 1, 1, 2, 2), 3),
                (1, 3, 0, (3, 2, 1, 1, 2, 0), 0)):
            self.assertEqual(last(*self.bare, reply(side, x, k, lie)), [expected], (side, x, k, lie))

    def test_a_point_that_lies_already(self):
        for lie in ((2, 3), (2, 3, 0, 1), (2, 3, 0, 1, 1, 0), (0, 1, 2, 3), (1, 0, 0, 1, 2, 3)):
            for k in range(4 - len(lie) // 2):
                self.assertEqual(last(*self.bare, reply(0, 2, k, lie)), [3])
                self.assertEqual(last(*self.bare, reply(1, 3, k, lie)), [2])

    def test_the_same_two_lying_more_than_once(self):
        for lie in ((2, 3, 2, 3), (2, 3, 2, 3, 2, 3)):
            k = 3 - len(lie) // 2
            self.assertEqual(last(*self.bare, reply(0, 2, k, lie)), [3])
            self.assertEqual(last(*self.bare, reply(1, 3, k, lie)), [2])
            self.assertEqual(last(*self.bare, reply(0, 0, k, lie)), [0])
            self.assertEqual(last(*self.bare, reply(1, 2, k, lie)), [0])

    def test_marks(self):
        calls = structure(0, 4, [], [1, 3], [2, 3]) + structure(1, 4, [], [0, 2], [3, 0])
        for x, y in ((0, 1), (1, 2), (2, 3), (3, 0)):
            for k in range(4):
                self.assertEqual(last(*calls, reply(0, x, k)), [y])
                self.assertEqual(last(*calls, reply(1, y, k)), [x])

    def test_arcs_in_one_direction(self):
        calls = structure(0, 4, [(0, 1), (1, 2), (2, 3)]) + structure(1, 4, [(3, 1), (1, 0), (0, 2)])
        for x, y in ((0, 3), (1, 1), (2, 0), (3, 2)):
            self.assertEqual(last(*calls, reply(0, x, 0)), [0])
            self.assertEqual(last(*calls, reply(1, y, 0)), [0])
            for k in (2, 3):
                self.assertEqual(last(*calls, reply(0, x, k)), [y])
                self.assertEqual(last(*calls, reply(1, y, k)), [x])
        for side, x, lie, expected in ((0, 1, (0, 1), 0), (0, 0, (1, 0), 1), (1, 1, (0, 3), 1), (1, 3, (1, 1), 0),
                                       (0, 2, (0, 2), 1), (0, 2, (0, 1), 2)):
            self.assertEqual(last(*calls, reply(side, x, 0, lie)), [expected], (side, x, lie))

    def test_arcs_to_itself(self):
        calls = structure(0, 3, [(2, 2)]) + structure(1, 4, [(1, 1), (3, 3)])
        self.assertEqual(ask(*calls, reply(0, 2, 0), reply(1, 1, 0), reply(1, 3, 0), reply(0, 0, 0), reply(0, 1, 0),
                             reply(1, 0, 0), reply(1, 2, 0))[-7:], [[1], [2], [2], [0], [0], [0], [0]])
        self.assertEqual(ask(*calls, reply(0, 2, 1), reply(1, 0, 1), reply(0, 2, 0, (2, 3)), reply(1, 1, 0, (2, 3))
                             )[-4:], [[-2], [0], [3], [-2]])

    def test_more_rounds_leave_fewer_points(self):
        # In an order the ends look like any other point until rounds are played behind them.
        calls = Plain(3, order(3)).calls(0) + Plain(4, order(4)).calls(1)
        for k, from_left, from_right in (
                (0, [0, 0, 0], [0, 0, 0, 0]), (1, [0, 1, 3], [0, 1, 1, 2]),
                (2, [-2] * 3, [-2] * 4), (3, [-2] * 3, [-2] * 4)):
            given = ask(*calls, *[reply(0, x, k) for x in range(3)], *[reply(1, x, k) for x in range(4)])[-7:]
            self.assertEqual(given, [[number] for number in from_left + from_right], k)

    def test_every_number_of_rounds_counts(self):
        calls = made(Plain(3), Plain(4))
        given = ask(*calls, *[reply(0, 2, k) for k in range(4)], *[reply(1, 3, k) for k in range(4)])[-8:]
        self.assertEqual(given, [[0], [0], [0], [-2]] * 2)
        given = ask(*calls, *[reply(0, 2, k, (0, 1)) for k in range(3)],
                    *[reply(1, 3, k, (0, 1)) for k in range(3)])[-6:]
        self.assertEqual(given, [[0], [0], [-2], [1], [1], [-2]])
        given = ask(*calls, *[reply(0, 2, k, (0, 1, 1, 0)) for k in range(2)],
                    *[reply(1, 3, k, (0, 1, 1, 0)) for k in range(2)])[-4:]
        self.assertEqual(given, [[2], [-2], [2], [-2]])
        self.assertEqual(last(*calls, reply(1, 3, 0, (0, 1, 1, 0, 2, 2))), [-2])
        self.assertEqual(last(*calls, reply(1, 2, 0, (0, 1, 1, 0, 2, 2))), [2])

    def test_what_lies_does_not_look_alike(self):
        calls = structure(0, 4, [(0, 1), (2, 2)], [3]) + structure(1, 4, [(1, 0), (2, 2)], [], [3])
        for lie in ((0, 0, 0, 1), (0, 0, 1, 0), (3, 3), (3, 0), (0, 3), (2, 0), (0, 2), (0, 0, 1, 1), (1, 1, 0, 0),
                    (0, 0, 1, 1, 2, 2), (2, 2, 0, 0, 1, 1), (2, 2, 2, 2, 3, 3)):
            for k in range(4 - len(lie) // 2):
                for side in (0, 1):
                    for x in range(4):
                        self.assertEqual(last(*calls, reply(side, x, k, lie)), [-2], (side, x, k, lie))
        for lie, expected in (((0, 0), 0), ((0, 1, 1, 0), 1), ((2, 2, 1, 0, 0, 1), 1)):
            self.assertEqual(last(*calls, reply(0, 0, 0, lie)), [expected])

    def test_no_point_to_choose(self):
        self.assertEqual(ask(points(0, 1), *[reply(0, 0, k) for k in range(4)])[1:], [[-2]] * 4)
        self.assertEqual(ask(points(1, 1), *[reply(1, 0, k) for k in range(4)])[1:], [[-2]] * 4)

    def test_asking_changes_nothing(self):
        asked = [reply(0, 2, 1, (0, 3)), reply(1, 2, 1, (0, 3)), reply(0, 2, 3), told()]
        given = ask(*self.bare, *asked, *asked)[-8:]
        self.assertEqual(given, [[0], [1], [0], [-2]] * 2)

    def test_against_the_second_way(self):
        chance = random.Random(31)
        found = {}
        for trial in range(200):
            left, right = similar_pair(chance, 4)
            sizes = (left.size, right.size)
            for each in range(8 if min(sizes) else 0):
                count = chance.randrange(4)
                lie = [chance.randrange(sizes[at % 2]) for at in range(2 * count)]
                side = chance.randrange(2)
                x = chance.randrange(sizes[side])
                k = chance.randrange(4 - count)
                expected = second.reply(left, right, side, x, k, lie)
                self.assertEqual(last(*made(left, right), reply(side, x, k, lie)), [expected])
                found[expected] = found.get(expected, 0) + 1
        self.assertEqual(set(found), {-2, 0, 1, 2, 3})


class RefusedReplyTest(unittest.TestCase):
    def setUp(self):
        self.made = made(Plain(2), Plain(4))

    def assert_refused(self, *calls):
        for call in calls:
            self.assertEqual(last(*self.made, call), [-1], call)

    def assert_not_refused(self, *calls):
        for call in calls:
            self.assertNotEqual(last(*self.made, call), [-1], call)

    def test_wrong_side(self):
        self.assert_refused(*[reply(side, 0, 0) for side in (-1, 2, 3, LOWEST, HIGHEST)])

    def test_no_such_x(self):
        self.assert_refused(*[reply(0, x, 0) for x in (-1, 2, 3, 4, 255, LOWEST, HIGHEST)])
        self.assert_refused(*[reply(1, x, 0) for x in (-1, 4, 5, 255, LOWEST, HIGHEST)])
        self.assert_not_refused(reply(0, 1, 0), reply(1, 3, 0))
        self.assertEqual(ask(reply(0, 0, 0), reply(1, 0, 0)), [[-1], [-1]])
        self.assertEqual(ask(points(0, 1), reply(1, 0, 0)), [[0], [-1]])

    def test_odd_n(self):
        for n in (1, 3, 5):
            for side in (0, 1):
                self.assert_refused(reply(side, 0, 0, (0, 0, 1, 1, 0, 0)[:n]))

    def test_n_outside(self):
        for n in (-1, -2, -4, -6, 7, 8, 10, 256, LOWEST, HIGHEST):
            for k in (0, 1, 3):
                self.assert_refused(reply_without_row(0, 0, k, n), reply_without_row(1, 0, k, n))

    def test_wrong_k(self):
        for k in (-1, -2, 4, 5, LOWEST, HIGHEST):
            self.assert_refused(reply(0, 0, k), reply(1, 0, k), reply(0, 0, k, (0, 0)),
                                reply(1, 0, k, (0, 0, 1, 1)), reply(1, 0, k, (0, 0, 1, 1, 0, 0)))

    def test_too_many_rounds_behind_what_lies(self):
        row = (0, 0, 1, 1, 0, 0)
        for n in (0, 2, 4, 6):
            for k in range(4):
                if n // 2 + k > 3:
                    self.assert_refused(reply(0, 0, k, row[:n]), reply(1, 0, k, row[:n]))
                else:
                    self.assert_not_refused(reply(0, 0, k, row[:n]), reply(1, 0, k, row[:n]))

    def test_a_number_that_is_no_point_of_its_structure(self):
        for n in (2, 4, 6):
            for at in range(n):
                for wrong in (4, 5, 12, 128, 254, 255) + ((2, 3) if at % 2 == 0 else ()):
                    lie = [0, 0, 1, 1, 0, 0][:n]
                    lie[at] = wrong
                    self.assert_refused(reply(0, 0, 0, lie), reply(1, 0, 0, lie))
        self.assert_not_refused(reply(0, 0, 0, (1, 3)), reply(1, 0, 0, (0, 2, 1, 3)))
        self.assertEqual(last(points(0, 1), reply(0, 0, 0, (0, 0))), [-1])
        self.assertEqual(last(points(1, 1), reply(1, 0, 0, (0, 0))), [-1])

    def test_told_ahead_of_there_being_no_such_point(self):
        unlike = (0, 0, 0, 1)
        self.assertEqual(last(*self.made, reply(0, 0, 1, unlike)), [-2])
        self.assert_refused(reply(2, 0, 1, unlike), reply(0, 2, 1, unlike), reply(0, 0, 2, unlike),
                            reply(0, 0, -1, unlike), reply(0, 0, 1, unlike[:3]), reply(0, 0, 0, unlike + (0, 4)),
                            reply(0, 0, 0, unlike + (2, 0)), reply(0, 0, 1, unlike + (0, 0)))
        self.assertEqual(ask(points(0, 1), reply(0, 0, 4), reply(0, 1, 0), reply(0, 0, 0))[1:], [[-1], [-1], [-2]])

    def test_changes_nothing(self):
        kept = ask(*self.made, told(), reply(1, 3, 0, (0, 1)))[-2:]
        for refused in (reply(2, 0, 0), reply(0, 9, 0), reply(0, 0, 9), reply_without_row(0, 0, 0, 7),
                        reply(0, 0, 0, (0, 255))):
            self.assertEqual(ask(*self.made, refused, told(), reply(1, 3, 0, (0, 1)))[-2:], kept)


if __name__ == "__main__":
    unittest.main()
