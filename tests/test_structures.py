"""Points 1 to 4: begin, points, arc, mark."""

import unittest

from pointgame.desk import answers
from tests.calls import HIGHEST, LOWEST, arc, ask, begin, form, holds, last, mark, points, text

WRONG_STRUCTURES = (-1, 2, LOWEST, HIGHEST)


def sizes_after(*calls):
    """How many points each structure has, found by the marks that can be put."""
    asked = [mark(g, 0, x, 1) for g in (0, 1) for x in range(14)]
    given = ask(*calls, *asked)[len(calls):]
    return [given[:14].count([0]), given[14:].count([0])]


def line_of(*calls):
    return calls


def arcs_of(line, g):
    """Which arcs a line of calls leaves: the points of each are marked, and a sentence asks about these."""
    size = sizes_after(*line)[g]
    found = []
    for x in range(size):
        for y in range(size):
            cleared = [mark(g, m, point, 0) for m in (0, 1) for point in range(size)]
            asked = [mark(g, 0, x, 1), mark(g, 1, y, 1), form(0, "SxSy((Px&Qy)&Exy)"), holds(g, 0)]
            if last(*line, *cleared, *asked) == [1]:
                found.append((x, y))
    return found


def marks_of(line, g):
    """Which marks a line of calls leaves: an arc to itself singles a point out, a sentence asks about it."""
    size = sizes_after(*line)[g]
    cleared = [arc(g, x, y, 0) for x in range(size) for y in range(size)]
    found = []
    for m, sentence in enumerate(("Sx(Exx&Px)", "Sx(Exx&Qx)")):
        for x in range(size):
            if last(*line, *cleared, arc(g, x, x, 1), form(0, sentence), holds(g, 0)) == [1]:
                found.append((m, x))
    return found


class BeginTest(unittest.TestCase):
    def test_answers_zero(self):
        self.assertEqual(answers([0]), [1, 0])
        self.assertEqual(answers([0, 0]), [1, 0, 1, 0])

    def test_no_points_and_empty_slots_at_first(self):
        self.assertEqual(sizes_after(), [0, 0])
        self.assertEqual(ask(*[text(slot, 1) for slot in range(8)]), [[-2]] * 8)

    def test_coming_again_takes_all_points_away(self):
        self.assertEqual(sizes_after(points(0, 3), points(1, 12)), [3, 12])
        self.assertEqual(sizes_after(points(0, 3), points(1, 12), begin()), [0, 0])

    def test_coming_again_empties_all_slots(self):
        filled = [form(slot, "AxPx") for slot in range(8)]
        asked = [text(slot, 256) for slot in range(8)]
        self.assertEqual(ask(*filled, begin(), *asked)[9:], [[-2]] * 8)

    def test_coming_again_takes_arcs_and_marks_away(self):
        line = line_of(points(0, 2), arc(0, 0, 1, 1), mark(0, 1, 1, 1), begin(), points(0, 2))
        self.assertEqual(arcs_of(line, 0), [])
        self.assertEqual(marks_of(line, 0), [])


class PointsTest(unittest.TestCase):
    def test_every_number_of_points(self):
        for n in range(13):
            self.assertEqual(ask(points(0, n), points(1, 12 - n)), [[0], [0]])
            self.assertEqual(sizes_after(points(0, n), points(1, 12 - n)), [n, 12 - n])

    def test_given_anew_with_more_or_fewer(self):
        self.assertEqual(sizes_after(points(0, 12), points(1, 5), points(0, 4)), [4, 5])
        self.assertEqual(sizes_after(points(0, 4), points(1, 5), points(1, 12)), [4, 12])
        self.assertEqual(sizes_after(points(0, 4), points(1, 5), points(0, 0)), [0, 5])

    def test_wrong_structure_changes_nothing(self):
        for g in WRONG_STRUCTURES:
            self.assertEqual(last(points(g, 7)), [-1])
            self.assertEqual(sizes_after(points(0, 3), points(1, 4), points(g, 7)), [3, 4])

    def test_wrong_number_changes_nothing(self):
        for n in (-1, 13, LOWEST, HIGHEST):
            for g in (0, 1):
                self.assertEqual(last(points(g, n)), [-1])
                self.assertEqual(sizes_after(points(0, 3), points(1, 4), points(g, n)), [3, 4])

    def test_both_wrong(self):
        self.assertEqual(last(points(2, 13)), [-1])

    def test_refusal_keeps_arcs_and_marks(self):
        kept = (points(0, 2), arc(0, 0, 1, 1), mark(0, 1, 0, 1))
        for wrong in (points(0, 13), points(0, -1), points(2, 2), points(-1, 2)):
            line = line_of(*kept, wrong)
            self.assertEqual(arcs_of(line, 0), [(0, 1)])
            self.assertEqual(marks_of(line, 0), [(1, 0)])

    def test_given_anew_takes_arcs_and_marks_of_that_structure_alone(self):
        filled = []
        for g in (0, 1):
            filled.extend([points(g, 3), arc(g, 1, 2, 1), mark(g, 0, 2, 1)])
        for g in (0, 1):
            line = line_of(*filled, points(g, 3))
            self.assertEqual(arcs_of(line, g), [])
            self.assertEqual(marks_of(line, g), [])
            self.assertEqual(arcs_of(line, 1 - g), [(1, 2)])
            self.assertEqual(marks_of(line, 1 - g), [(0, 2)])

    def test_keeps_the_slots(self):
        self.assertEqual(last(form(3, "SxQx"), points(0, 2), points(0, 13), text(3, 0)), [4])


class ArcTest(unittest.TestCase):
    def setUp(self):
        self.made = (points(0, 3), points(1, 2))

    def test_any_number_but_zero_puts_an_arc(self):
        for on in (1, 2, 256, -1, HIGHEST, LOWEST):
            self.assertEqual(last(*self.made, arc(0, 2, 1, on)), [0])
            line = line_of(*self.made, arc(0, 2, 1, on))
            self.assertEqual(arcs_of(line, 0), [(2, 1)])
            self.assertEqual(arcs_of(line, 1), [])

    def test_zero_takes_the_arc_away(self):
        self.assertEqual(ask(*self.made, arc(1, 0, 1, 1), arc(1, 0, 1, 0))[2:], [[0], [0]])
        put = (arc(1, 0, 1, 1), arc(1, 1, 0, 1))
        self.assertEqual(arcs_of(line_of(*self.made, *put, arc(1, 0, 1, 0)), 1), [(1, 0)])

    def test_zero_where_no_arc_is(self):
        self.assertEqual(last(*self.made, arc(0, 0, 1, 0)), [0])
        self.assertEqual(arcs_of(line_of(*self.made, arc(0, 0, 1, 0)), 0), [])

    def test_from_a_point_to_itself(self):
        self.assertEqual(ask(*self.made, arc(0, 2, 2, 1), arc(0, 2, 2, 0))[2:], [[0], [0]])
        self.assertEqual(arcs_of(line_of(*self.made, arc(0, 2, 2, 1)), 0), [(2, 2)])

    def test_put_twice_is_there_once(self):
        twice = (arc(0, 0, 1, 1), arc(0, 0, 1, 5))
        self.assertEqual(arcs_of(line_of(*self.made, *twice), 0), [(0, 1)])
        self.assertEqual(arcs_of(line_of(*self.made, *twice, arc(0, 0, 1, 0)), 0), [])

    def test_wrong_numbers_change_nothing(self):
        wrong = [arc(g, 0, 1, 0) for g in WRONG_STRUCTURES]
        wrong += [arc(0, x, 1, 0) for x in (-1, -3, 3, LOWEST, HIGHEST)]
        wrong += [arc(0, 0, y, 0) for y in (-1, -2, 3, LOWEST, HIGHEST)]
        wrong += [arc(1, 2, 0, 1), arc(1, 0, 2, 1), arc(0, 3, 3, 1), arc(2, 9, 9, 1)]
        for call in wrong:
            self.assertEqual(last(*self.made, call), [-1], call)
            line = line_of(*self.made, arc(0, 0, 1, 1), arc(1, 0, 1, 1), call)
            self.assertEqual(arcs_of(line, 0), [(0, 1)], call)
            self.assertEqual(arcs_of(line, 1), [(0, 1)], call)

    def test_no_points_no_arc(self):
        self.assertEqual(ask(arc(0, 0, 0, 1), arc(1, 0, 0, 0)), [[-1], [-1]])

    def test_up_to_the_twelfth_point(self):
        self.assertEqual(last(points(1, 12), arc(1, 11, 11, 1)), [0])
        self.assertEqual(last(points(1, 12), arc(1, 12, 11, 1)), [-1])
        self.assertEqual(last(points(1, 12), arc(1, 11, 12, 1)), [-1])


class MarkTest(unittest.TestCase):
    def setUp(self):
        self.made = (points(0, 3), points(1, 2))

    def test_any_number_but_zero_puts_a_mark(self):
        for on in (1, 2, 256, -1, HIGHEST, LOWEST):
            for m in (0, 1):
                self.assertEqual(last(*self.made, mark(1, m, 1, on)), [0])
                line = line_of(*self.made, mark(1, m, 1, on))
                self.assertEqual(marks_of(line, 1), [(m, 1)])
                self.assertEqual(marks_of(line, 0), [])

    def test_zero_takes_that_mark_away(self):
        put = (mark(0, 0, 2, 1), mark(0, 1, 2, 1))
        self.assertEqual(ask(*self.made, *put, mark(0, 0, 2, 0))[2:], [[0], [0], [0]])
        self.assertEqual(marks_of(line_of(*self.made, *put, mark(0, 0, 2, 0)), 0), [(1, 2)])
        self.assertEqual(marks_of(line_of(*self.made, *put, mark(0, 1, 2, 0)), 0), [(0, 2)])

    def test_zero_where_no_mark_is(self):
        self.assertEqual(last(*self.made, mark(0, 1, 0, 0)), [0])

    def test_wrong_numbers_change_nothing(self):
        wrong = [mark(g, 0, 1, 0) for g in WRONG_STRUCTURES]
        wrong += [mark(0, m, 1, 0) for m in (-1, -2, 2, LOWEST, HIGHEST)]
        wrong += [mark(0, 0, x, 0) for x in (-1, -2, 3, LOWEST, HIGHEST)]
        wrong += [mark(1, 0, 2, 1), mark(2, 2, 9, 1)]
        for call in wrong:
            self.assertEqual(last(*self.made, call), [-1], call)
            line = line_of(*self.made, mark(0, 0, 1, 1), mark(1, 0, 1, 1), call)
            self.assertEqual(marks_of(line, 0), [(0, 1)], call)
            self.assertEqual(marks_of(line, 1), [(0, 1)], call)

    def test_no_points_no_mark(self):
        self.assertEqual(ask(mark(0, 0, 0, 1), mark(1, 1, 0, 0)), [[-1], [-1]])

    def test_up_to_the_twelfth_point(self):
        self.assertEqual(last(points(0, 12), mark(0, 1, 11, 1)), [0])
        self.assertEqual(last(points(0, 12), mark(0, 1, 12, 1)), [-1])


if __name__ == "__main__":
    unittest.main()
