"""The interface: how calls and answers stand in their lists, and what a desk leaves alone."""

import contextlib
import io
import random
import unittest

from pointgame.desk import answers
from tests.calls import (HIGHEST, LOWEST, apart, arc, begin, codes_of, form, form_without_row, holds, in_a_row, mark,
                         points, rank, reply, reply_without_row, stones, text, told)
from tests.second import Line

CALLS = [
    0,
    1, 0, 3,
    1, 1, 13,
    2, 0, 0, 2, 1,
    2, 1, 0, 0, 1,
    3, 0, 1, 2, -5,
    3, 0, 2, 2, 1,
    4, 6, 4, 4, 65, 120, 80, 120,
    4, 6, 0, 0,
    4, 6, 2, 2, 80, 120,
    5, 6, 3,
    5, 6, 300,
    5, 0, 3,
    5, 9, 3,
    6, 6,
    6, 0,
    6, 8,
    7, 0, 6,
    7, 1, 6,
    7, 2, 6,
    7, 0, 5,
    8,
    9, 0, 2, 0, 0, 0,
    9, 1, 0, 0, 0, 0,
    10, 0,
    10, 1,
    10, 4,
    1, 1, 3,
    2, 1, 2, 0, 1,
    3, 1, 1, 0, 1,
    8,
    9, 0, 0, 2, 2, 2, 2, 0,
    9, 1, 1, 1, 4, 4, 0, 2, 2, 0,
    9, 1, 1, 0, 3, 3, 0, 2, 2,
    9, 1, 1, 0, 8, 0,
    9, 0, 1, 0, 6, 6, 0, 2, 2, 0, 1, 1,
    9, 0, 0, 2, 2, 2, 2, 255,
    10, 3,
    0,
    5, 6, 3,
    6, 6,
    7, 0, 6,
    8,
    10, 3,
]

ANSWERS = [
    1, 0,
    1, 0,
    1, -1,
    1, 0,
    1, -1,
    1, 0,
    1, -1,
    1, 0,
    1, -1,
    1, -2,
    4, 4, 65, 120, 80,
    1, 4,
    1, -2,
    1, -1,
    1, 1,
    1, -2,
    1, -1,
    1, 0,
    1, 1,
    1, -1,
    1, -2,
    1, 1,
    1, -2,
    1, -1,
    1, 1,
    1, 0,
    1, -1,
    1, 0,
    1, 0,
    1, 0,
    1, -2,
    1, 2,
    1, 1,
    1, -1,
    1, -1,
    1, 1,
    1, -1,
    1, 1,
    1, 0,
    1, -2,
    1, -2,
    1, -2,
    1, -2,
    1, 1,
]

SENTENCES = (
    "AxPx", "SxQx", "!SxExx", "AxSyExy", "SxAyEyx", "AxAy=xy", "Sx(Px&Sx!Px)", "SxSy(Exy&!Eyx)",
    "AxAyAz(!(Exy&Eyz)|Exz)", "SxSySz((!=xy&!=yz)&!=xz)", "Ax(Px|Sy(Exy&Qy))", "AuSvAwSx((Euv&Ewx)|=uw)",
    "(AxSyExy|!SxPx)", "Px", "AxPy", "AuAvAwAxAyPy", "AxPx)", "Ax Px",
)


def some_call(chance, line):
    """A call that may come next in the line; mostly one that isn't refused."""
    g = chance.choice((0, 1, 0, 1, 0, 1, 2, -1))
    slot = chance.choice((0, 1, 2, 3, 3, 2, 1, 0, 7, 8, -1))
    x, y = chance.randrange(-1, 4), chance.randrange(4)
    on = chance.choice((0, 1, 1, -7))
    if chance.random() < 0.01:
        return begin()
    if chance.random() < 0.04:
        return points(g, chance.choice((0, 1, 2, 3, 3, 4, 12, 13, -1)))
    choice = chance.randrange(9 if max(plain.size for plain in line.plains) <= 4 else 6)
    if choice == 0:
        return arc(g, x, y, on)
    if choice == 1:
        return mark(g, chance.choice((0, 1, 0, 1, 2)), x, on)
    if choice == 2:
        return form(slot, chance.choice(SENTENCES)) if chance.random() < 0.9 else form_without_row(slot, 257)
    if choice == 3:
        return text(slot, chance.choice((0, 1, 5, 256, 257, LOWEST, HIGHEST)))
    if choice == 4:
        return rank(slot)
    if choice == 5:
        return holds(g, slot)
    if choice == 6:
        return told()
    if choice == 7:
        return some_reply(chance, g)
    # The second way takes long for three stones.
    few = line.plains[0].size * line.plains[1].size <= 9
    return stones(chance.choice((0, 1, 2, 2, 1, 3 if few else 2, -1, 4)))


def some_reply(chance, side):
    if chance.random() < 0.05:
        return reply_without_row(side, 0, 0, chance.choice((-2, 7, 8)))
    lie = [chance.choice((0, 0, 1, 1, 2, 3, 255)) for at in range(chance.choice((0, 0, 0, 1, 2, 2, 4, 6)))]
    return reply(side, chance.randrange(4), chance.choice((0, 0, 0, 1, 1, 2, 3, 4, -1)), lie)


def some_line(chance, count):
    """A line of calls, and what the second way answers to each of them."""
    line = Line()
    calls = [begin(), points(0, chance.randrange(5)), points(1, chance.randrange(4))]
    given = [line.ask(call) for call in calls]
    while len(calls) < count:
        calls.append(some_call(chance, line))
        given.append(line.ask(calls[-1]))
    return calls, given


class Unchanging(list):
    """A list that fails at the first try to change it."""

    def refuse(self, *given, **named):
        raise AssertionError("what is handed in is changed")

    append = clear = extend = insert = pop = remove = reverse = sort = refuse
    __setitem__ = __delitem__ = __iadd__ = __imul__ = refuse


class DeskTest(unittest.TestCase):
    def test_a_list_written_out(self):
        self.assertEqual(answers(list(CALLS)), ANSWERS)

    def test_what_is_handed_in_is_as_it_was(self):
        handed = list(CALLS)
        answers(handed)
        self.assertEqual(handed, CALLS)

    def test_what_is_handed_in_is_not_changed_for_a_while_either(self):
        self.assertEqual(answers(Unchanging(CALLS)), ANSWERS)

    def test_asking_twice(self):
        handed = list(CALLS)
        self.assertEqual(answers(handed), answers(handed))

    def test_nothing_is_kept(self):
        asked = in_a_row([begin(), arc(0, 0, 0, 1), mark(1, 0, 0, 1), text(0, 9)])
        first = answers(asked)
        answers(in_a_row([begin(), points(0, 5), points(1, 5), form(0, "AxPx")]))
        self.assertEqual(first, [1, 0, 1, -1, 1, -1, 1, -2])
        self.assertEqual(answers(asked), first)

    def test_changing_what_is_given_back_changes_nothing(self):
        given = answers(CALLS)
        given.clear()
        self.assertEqual(answers(CALLS), ANSWERS)

    def test_answers_are_whole_numbers_in_a_list(self):
        given = answers(CALLS)
        self.assertIs(type(given), list)
        self.assertEqual({type(number) for number in given}, {int})

    def test_nothing_is_printed(self):
        printed = io.StringIO()
        with contextlib.redirect_stdout(printed), contextlib.redirect_stderr(printed):
            answers(CALLS)
        self.assertEqual(printed.getvalue(), "")

    def test_whole_lines_against_the_second_way(self):
        chance = random.Random(50)
        found = {}
        for trial in range(12):
            calls, expected = some_line(chance, 400)
            handed = in_a_row(calls)
            kept = list(handed)
            given = answers(handed)
            self.assertEqual(apart(given), expected)
            self.assertEqual(handed, kept)
            self.assertEqual(answers(handed), given)
            for call, answer in zip(calls, expected):
                found.setdefault(call[0], set()).add(answer[0])
        for call, least in ((0, {0}), (1, {0, -1}), (2, {0, -1}), (3, {0, -1}), (4, {0, -1, -2}),
                            (5, {4, -1, -2}), (6, {1, 2, 3, 4, -1, -2}), (7, {0, 1, -1, -2}),
                            (8, {1, 2, -2}), (9, {0, 1, 2, -1, -2}), (10, {0, 1, -1})):
            self.assertLessEqual(least, found[call], call)

    def test_begin_coming_again(self):
        filled = [points(0, 2), points(1, 1), arc(0, 0, 1, 1), mark(1, 0, 0, 1), form(0, "SxPx")]
        asked = [rank(0), holds(0, 0), holds(1, 0), told(), reply(1, 0, 0), stones(1)]
        once = [begin()] + filled + asked + [begin()] + asked
        expected = [[0]] * 6 + [[1], [0], [1], [1], [-2], [0], [0], [-2], [-2], [-2], [-2], [-1], [1]]
        self.assertEqual(apart(answers(in_a_row(once))), expected)
        self.assertEqual(apart(answers(in_a_row(once * 10))), expected * 10)

    def test_the_calls_of_the_game_as_often_as_may_be(self):
        for asked, answer in ((told(), -2), (stones(3), 1), (reply(0, 3, 3), 0),
                              (reply(1, 0, 0, (0, 3, 1, 2, 2, 1)), 3)):
            given = answers(in_a_row([begin(), points(0, 4), points(1, 4)] + [asked] * 397))
            self.assertEqual(given, [1, 0] * 3 + [1, answer] * 397)

    def test_as_many_calls_as_may_be(self):
        given = answers([0] + [5, 0, 1] * 399)
        self.assertEqual(given, [1, 0] + [1, -2] * 399)

    def test_a_list_as_long_as_may_be(self):
        sentence = "!" * 252 + "AxPx"
        filled = [form(k % 8, sentence) for k in range(115)]
        asked = in_a_row([begin()] + filled + [text(k % 8, 256) for k in range(33)])
        self.assertEqual(len(asked), 30000)
        self.assertEqual(answers(asked), [1, 0] * 116 + ([257, 256] + codes_of(sentence)) * 33)


if __name__ == "__main__":
    unittest.main()
