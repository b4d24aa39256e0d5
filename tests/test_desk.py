"""The interface: how calls and answers stand in their lists, and what a desk leaves alone."""

import contextlib
import io
import unittest

from pointgame.desk import answers
from tests.calls import arc, begin, codes_of, form, in_a_row, mark, points, text

CALLS = [
    0,
    1, 0, 3,
    1, 1, 13,
    2, 0, 0, 2, 1,
    2, 1, 0, 0, 1,
    3, 0, 1, 2, -5,
    3, 0, 2, 2, 1,
    4, 6, 4, 4, 65, 120, 80, 120,
    4, 6, 0, 0,
    4, 6, 2, 2, 80, 120,
    5, 6, 3,
    5, 6, 300,
    5, 0, 3,
    5, 9, 3,
    0,
    5, 6, 3,
]

ANSWERS = [
    1, 0,
    1, 0,
    1, -1,
    1, 0,
    1, -1,
    1, 0,
    1, -1,
    1, 0,
    1, -1,
    1, -2,
    4, 4, 65, 120, 80,
    1, 4,
    1, -2,
    1, -1,
    1, 0,
    1, -2,
]


class Unchanging(list):
    """A list that fails at the first try to change it."""

    def refuse(self, *given, **named):
        raise AssertionError("what is handed in is changed")

    append = clear = extend = insert = pop = remove = reverse = sort = refuse
    __setitem__ = __delitem__ = __iadd__ = __imul__ = refuse


class DeskTest(unittest.TestCase):
    def test_a_list_written_out(self):
        self.assertEqual(answers(list(CALLS)), ANSWERS)

    def test_what_is_handed_in_is_as_it_was(self):
        handed = list(CALLS)
        answers(handed)
        self.assertEqual(handed, CALLS)

    def test_what_is_handed_in_is_not_changed_for_a_while_either(self):
        self.assertEqual(answers(Unchanging(CALLS)), ANSWERS)

    def test_asking_twice(self):
        handed = list(CALLS)
        self.assertEqual(answers(handed), answers(handed))

    def test_nothing_is_kept(self):
        asked = in_a_row([begin(), arc(0, 0, 0, 1), mark(1, 0, 0, 1), text(0, 9)])
        first = answers(asked)
        answers(in_a_row([begin(), points(0, 5), points(1, 5), form(0, "AxPx")]))
        self.assertEqual(first, [1, 0, 1, -1, 1, -1, 1, -2])
        self.assertEqual(answers(asked), first)

    def test_changing_what_is_given_back_changes_nothing(self):
        given = answers(CALLS)
        given.clear()
        self.assertEqual(answers(CALLS), ANSWERS)

    def test_answers_are_whole_numbers_in_a_list(self):
        given = answers(CALLS)
        self.assertIs(type(given), list)
        self.assertEqual({type(number) for number in given}, {int})

    def test_nothing_is_printed(self):
        printed = io.StringIO()
        with contextlib.redirect_stdout(printed), contextlib.redirect_stderr(printed):
            answers(CALLS)
        self.assertEqual(printed.getvalue(), "")

    def test_as_many_calls_as_may_be(self):
        given = answers([0] + [5, 0, 1] * 399)
        self.assertEqual(given, [1, 0] + [1, -2] * 399)

    def test_a_list_as_long_as_may_be(self):
        sentence = "!" * 252 + "AxPx"
        filled = [form(k % 8, sentence) for k in range(115)]
        asked = in_a_row([begin()] + filled + [text(k % 8, 256) for k in range(33)])
        self.assertEqual(len(asked), 30000)
        self.assertEqual(answers(asked), [1, 0] * 116 + ([257, 256] + codes_of(sentence)) * 33)


if __name__ == "__main__":
    unittest.main()
