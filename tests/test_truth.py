"""Points 7 and 8: rank and holds."""

import random
import unittest

from tests.calls import (HIGHEST, LOWEST, arc, ask, begin, form, form_without_row, holds, last, mark,
                         points, rank, structure, text)
from tests.second import NAMES, Plain, depth_of, is_so

WRONG_SLOTS = (-1, 8, -8, LOWEST, HIGHEST)
WRONG_STRUCTURES = (-1, 2, LOWEST, HIGHEST)

RANKS = (
    ("AxPx", 1), ("SxQx", 1), ("!AxPx", 1), ("Ax!!Px", 1), ("AxAyExy", 2), ("AxSyExy", 2),
    ("SxAxPx", 2), ("AuSvAwPw", 3), ("AuSvAwSxEux", 4), ("AxAxAxAxPx", 4), ("Ax!Sy!Az!Su!Exu", 4),
    # beside one another: the deeper one counts, on either side
    ("(AxPx&SxQx)", 1), ("(AxPx|SxAyQx)", 2), ("(SxAyQx|AxPx)", 2), ("(AxPx&SxAySzQx)", 3),
    ("(SxAySzQx&AxPx)", 3), ("(AuAvAwAxPx|SxPx)", 4), ("(SxPx|AuAvAwAxPx)", 4),
    ("((AxPx&AxPx)|(SxPx&SxPx))", 1), ("(AxAyExy&SxSyExy)", 2), ("((AxPx|AuAvPv)&AwPw)", 2),
    ("(AwPw&(AxPx|(AuAvPv&SyQy)))", 2),
    # beside one another within others
    ("Ax(Px&SyExy)", 2), ("Ax(SyExy&Px)", 2), ("Ax(SyExy|AySzEyz)", 3), ("Ax(AySzEyz|SyExy)", 3),
    ("Ax(SyExy|(SyExy&SyEyx))", 2), ("Ax(Sy(Exy&AzEyz)|SyAzAu=zu)", 4), ("Ax!(SyAzAu=zu|SyExy)", 4),
    ("(Ax(SyExy&Px)&SuQu)", 2),
)

# Structures by name: how many points, which arcs, which points with mark 0, which with mark 1.
MADE = {
    "none": (0,),
    "one": (1,),
    "loop": (1, [(0, 0)]),
    "two": (2,),
    "arc": (2, [(0, 1)]),
    "both": (2, [(0, 1), (1, 0)]),
    "circle": (3, [(0, 1), (1, 2), (2, 0)]),
    "order": (3, [(0, 1), (0, 2), (1, 2)]),
    "some": (3, [(2, 2)], [0, 1], [1]),
    "all": (3, [], [0, 1, 2], [0, 1, 2]),
    "last": (3, [(0, 2), (1, 2)], [2], []),
    "twelve": (12,),
    "twelfth": (12, [(x, 11) for x in range(12)], [11], range(11)),
    "ring": (12, [(x, (x + 1) % 12) for x in range(12)]),
}

# A sentence; the structures of which it is so; those of which it isn't.
HOLDING = (
    ("AxPx", "none all", "one some last twelve twelfth"),
    ("SxPx", "some all last twelfth", "none one twelve ring"),
    ("AxQx", "none all", "one some last twelfth"),
    ("SxQx", "some all twelfth", "none one last"),
    ("AxExx", "none loop", "one arc both some twelve twelfth ring"),
    ("SxExx", "loop some twelfth", "none one arc both circle twelve ring"),
    ("Sx=xx", "one two twelve", "none"),
    ("Ax=xx", "none one two twelve", ""),
    ("Ax!=xx", "none", "one two twelve"),
    ("AxAy=xy", "none one loop", "two arc circle twelve"),
    ("SxSy!=xy", "two arc circle twelve", "none one loop"),
    ("!SxPx", "none one two twelve ring", "some all last twelfth"),
    ("!AxPx", "one some last twelfth", "none all"),
    ("Sx!Px", "one some last twelfth", "none all"),
    ("Ax!!Px", "none all", "one some"),
    ("Sx(Px&Qx)", "some all", "one last twelfth"),
    ("Sx(Px&!Qx)", "some last twelfth", "one all"),
    ("Ax(Px|Qx)", "none all twelfth", "one some last"),
    ("Ax(Px|!Qx)", "none one some all last", "twelfth"),
    ("(SxPx&SxQx)", "some all twelfth", "one last none"),
    ("(SxPx|SxQx)", "some all last twelfth", "one none"),
    ("(SxQx|SxPx)", "some all last twelfth", "one none"),
    ("(!SxPx&SxQx)", "", "one some all last none"),
    ("(SxPx&!SxQx)", "last", "one some all none twelfth"),
    ("(SxQx&SxPx)", "some all twelfth", "one last none"),
    # an arc's direction, and which point is put for which name
    ("SxAyExy", "loop", "none one arc both circle order last twelfth ring"),
    ("SxAyEyx", "loop twelfth", "none one arc both circle order last ring"),
    ("SxAy(=xy|Exy)", "one loop arc both order", "none two circle last twelfth ring"),
    ("SxAy(=xy|Eyx)", "one loop arc both order last twelfth", "none two circle ring"),
    ("AxSyExy", "none loop both circle twelfth ring", "one arc order last"),
    ("AxSyEyx", "none loop both circle ring", "one arc order last twelfth"),
    ("SxSy(Exy&Eyx)", "loop both some twelfth", "none arc circle order last ring"),
    ("SxSy(Exy&!Eyx)", "arc circle order last twelfth ring", "none loop both some"),
    ("AxAy(!Exy|Eyx)", "none one loop two both some", "arc circle order last twelfth ring"),
    ("SxSy((Px&!Py)&Eyx)", "last twelfth", "none some all order"),
    ("SxSy((Px&!Py)&Exy)", "", "none some all order last twelfth"),
    # the order of A and S
    ("AxSy=xy", "none one two twelve", ""),
    ("SyAx=xy", "one loop", "none two twelve"),
    ("SxAy=xy", "one loop", "none two twelve"),
    ("AxSy!=xy", "none two twelve", "one loop"),
    # three and four names
    ("AxAyAz(!(Exy&Eyz)|Exz)", "none one loop arc order last twelfth", "both circle ring"),
    ("SxSySz((Exy&Eyz)&Ezx)", "loop circle some twelfth", "both order last ring"),
    ("SxSySz((!=xy&!=yz)&!=xz)", "circle some twelve", "none one two arc both"),
    ("SuSvSwSx((Euv&Evw)&(Ewx&!=ux))", "both ring twelfth", "none loop arc circle order some last"),
    ("SuSvSwSx(((!=uv&!=uw)&(!=ux&!=vw))&(!=vx&!=wx))", "twelve twelfth ring", "none one two circle all"),
    ("AuSvAwSx(Euv&(=wx|Exw))", "none loop both circle ring twelfth", "one arc order last"),
    ("AuAvSwSx((Euw&Evx)&=wx)", "none loop twelfth", "one both circle ring order"),
    # a name that's bound and not used
    ("AxSyPx", "none all", "one some twelfth"),
    ("SxAyPx", "some all last twelfth", "none one"),
    ("SyAxPx", "all", "none one some last"),
    ("AySxPx", "none some all last twelfth", "one"),
    # bound anew: the nearest is meant, and behind it the outer one again
    ("AxSxPx", "none some all last twelfth", "one"),
    ("SxAxPx", "all", "none one some last"),
    ("Sx(Qx&AxPx)", "all", "none some last twelfth"),
    ("Sx(AxPx|Qx)", "some all twelfth", "none one last"),
    ("Sx(Sx(Px&!Qx)&Qx)", "some twelfth", "none one all last"),
    ("Sx(!Px&(Sx(Px&!Qx)&Qx))", "twelfth", "none one some all last"),
    ("Sx(Sx(!Px&Exx)&(Px&!Exx))", "some", "none one loop all last twelfth"),
    ("AxSy(Exy&Sx(Eyx&!=xy))", "none both circle ring", "one loop arc order last twelfth"),
    ("SxSy(!=xy&(Sx=xy&Ay=yy))", "two circle twelve", "none one loop"),
    ("SxSy(Sx(Px&Eyx)&(!Px&Exy))", "twelfth", "none one arc circle order last"),
    ("SxSy(Exy&SxSy(Eyx&(Px&!=xy)))", "last twelfth", "none arc both order circle some"),
)


EDGES = [f"E{x}{y}" for x in "uvwx" for y in "uvwx"]
NO_EDGES = ["!" + edge for edge in EDGES]


def make(name, g):
    return structure(g, *MADE[name])


def chain(head, atoms, joins, most=256):
    """A sentence of a head and as many atoms, bracketed from the left, as its bytes let."""
    formula = atoms[0]
    at = 1
    while len(head) + len(formula) + len(atoms[at % len(atoms)]) + 3 <= most:
        formula = f"({formula}{joins[at % len(joins)]}{atoms[at % len(atoms)]})"
        at += 1
    return head + formula


def some_formula(chance, scope, budget, depth):
    choice = chance.random()
    if not scope or (depth < 4 and choice < 0.35):
        name = chance.choice(NAMES)
        return chance.choice("AS") + name + some_formula(chance, scope | {name}, budget - 2, depth + 1)
    if budget < 8 or choice < 0.55:
        sign = chance.choice("EEPQ=")
        return sign + "".join(chance.choice(sorted(scope)) for k in range(1 if sign in "PQ" else 2))
    if choice < 0.65:
        return "!" + some_formula(chance, scope, budget - 1, depth)
    sides = [some_formula(chance, scope, budget // 2 - 2, depth) for side in (0, 1)]
    return f"({sides[0]}{chance.choice('&|')}{sides[1]})"


def some_structure(chance, size):
    density = chance.choice((0.1, 0.3, 0.5, 0.8))
    marked = [[x for x in range(size) if chance.random() < density] for m in (0, 1)]
    arcs = [(x, y) for x in range(size) for y in range(size) if chance.random() < density]
    return Plain(size, arcs, *marked)


class RankTest(unittest.TestCase):
    def test_how_deep(self):
        for sentence, expected in RANKS:
            self.assertEqual(ask(form(3, sentence), rank(3)), [[0], [expected]], sentence)

    def test_no_sentence_is_of_depth_0_or_5(self):
        for sentence in ("Px", "=xx", "!Exy", "(Px&Qx)", "AuAvAwAxAyPy"):
            self.assertEqual(ask(form(3, sentence), rank(3)), [[-2], [-2]], sentence)

    def test_nested_as_deep_as_256_bytes_let(self):
        for sentence, expected in (
                ("!" * 252 + "AxPx", 1),
                ("AuAvAwAx" + "!" * 246 + "Px", 4),
                ("(" * 36 + "AxPx" + "&SxQx)" * 36, 1),
                ("(" * 35 + "SxSyExy" + "|SxQx)" * 35, 2),
                ("(AxPx|" * 35 + "SxAySzPy" + ")" * 35, 3)):
            self.assertLessEqual(len(sentence), 256)
            self.assertEqual(ask(form(0, sentence), rank(0)), [[0], [expected]], sentence)

    def test_every_slot_by_itself(self):
        filled = [form(slot, "Ax" * (slot // 2 + 1) + "Px") for slot in range(8)]
        self.assertEqual(ask(*filled, *[rank(slot) for slot in range(8)])[8:],
                         [[1], [1], [2], [2], [3], [3], [4], [4]])

    def test_wrong_slot(self):
        filled = [form(slot, "AxPx") for slot in range(8)]
        for slot in WRONG_SLOTS:
            self.assertEqual(last(*filled, rank(slot)), [-1])

    def test_empty_slot(self):
        for slot in range(8):
            self.assertEqual(last(rank(slot)), [-2])
            self.assertEqual(last(form((slot + 1) % 8, "AxPx"), rank(slot)), [-2])

    def test_wrong_slot_is_told_ahead_of_an_empty_one(self):
        self.assertEqual(ask(*[rank(slot) for slot in WRONG_SLOTS]), [[-1]] * len(WRONG_SLOTS))

    def test_after_a_new_sentence_a_refused_one_and_begin(self):
        given = ask(form(0, "AxAyExy"), form(0, "AxPx"), rank(0), form(0, "AxAyAzPw"), rank(0),
                    form_without_row(0, 257), rank(0), begin(), rank(0))
        self.assertEqual(given, [[0], [0], [1], [-2], [1], [-1], [1], [0], [-2]])


class HoldsTest(unittest.TestCase):
    def test_each_sort_of_formula(self):
        for sentence, so, not_so in HOLDING:
            for expected, names in ((1, so), (0, not_so)):
                for name in names.split():
                    given = ask(*make(name, 0), form(7, sentence), holds(0, 7))
                    self.assertEqual(given[-2:], [[0], [expected]], (sentence, name))

    def test_the_second_structure(self):
        for sentence, so, not_so in HOLDING:
            for expected, names in ((1, so), (0, not_so)):
                for name in names.split():
                    given = ask(*make(name, 1), form(0, sentence), holds(1, 0), holds(0, 0))
                    empty = int(is_so(sentence, Plain(0)))
                    self.assertEqual(given[-2:], [[expected], [empty]], (sentence, name))

    def test_every_name(self):
        for name in NAMES:
            for other in NAMES.replace(name, ""):
                sentence = f"S{name}S{other}(E{name}{other}&!E{other}{name})"
                self.assertEqual(last(*make("arc", 0), form(0, sentence), holds(0, 0)), [1])
                self.assertEqual(last(*make("both", 0), form(0, sentence), holds(0, 0)), [0])

    def test_every_single_arc_and_mark(self):
        asked = [form(0, "SxSy((Px&Qy)&Exy)"), form(1, "SxSy((Px&Qy)&Eyx)")]
        for size in (2, 12):
            for x in range(size):
                for y in range(size):
                    made = structure(0, size, [(x, y)])
                    for first, second in ((x, y), (y, x), (x, (y + 1) % size)):
                        given = ask(*made, mark(0, 0, first, 1), mark(0, 1, second, 1), *asked,
                                    holds(0, 0), holds(0, 1))
                        expected = [[int((first, second) == (x, y))], [int((second, first) == (x, y))]]
                        self.assertEqual(given[-2:], expected)

    def test_arcs_and_marks_taken_away_again(self):
        given = ask(*structure(0, 2, [(0, 1), (1, 1)], [0], [0]), form(0, "SxExx"), form(1, "SxSy(Exy&!=xy)"),
                    form(2, "SxPx"), form(3, "SxQx"), *[holds(0, slot) for slot in range(4)],
                    arc(0, 1, 1, 0), *[holds(0, slot) for slot in range(4)],
                    mark(0, 0, 0, 0), *[holds(0, slot) for slot in range(4)],
                    arc(0, 1, 0, 0), arc(0, 0, 1, 0), *[holds(0, slot) for slot in range(4)],
                    mark(0, 1, 1, 0), mark(0, 1, 0, 0), *[holds(0, slot) for slot in range(4)])
        found = [number for answer in given[9:] for number in answer]
        self.assertEqual(found, [1, 1, 1, 1, 0, 0, 1, 1, 1, 0, 0, 1, 0, 1, 0, 0, 0, 0, 0, 1, 0, 0, 0, 0, 0, 0])

    def test_arcs_and_marks_are_gone_after_points(self):
        slots = [holds(g, slot) for g in (0, 1) for slot in range(3)]
        filled = [form(0, "SxSyExy"), form(1, "SxPx"), form(2, "SxQx")]
        made = structure(0, 3, [(0, 1)], [1], [2]) + structure(1, 3, [(0, 1)], [1], [2])
        for again, expected in ((points(0, 3), [0, 0, 0, 1, 1, 1]), (points(1, 4), [1, 1, 1, 0, 0, 0]),
                                (points(0, 13), [1] * 6), (points(2, 3), [1] * 6)):
            given = ask(*filled, *made, again, *slots)
            self.assertEqual(given[-6:], [[number] for number in expected])

    def test_a_refused_arc_or_mark_changes_nothing(self):
        made = make("arc", 0)
        for refused in (arc(0, 0, 2, 1), arc(0, -1, 0, 1), arc(2, 0, 0, 1), mark(0, 2, 0, 1), mark(0, -1, 0, 1),
                        mark(0, 0, 2, 1), mark(0, 0, -1, 1), mark(-1, 0, 0, 1)):
            given = ask(*made, refused, form(0, "(SxSySz(Exy&(Exz&!=yz))|(SxExx|(SxPx|SxQx)))"), holds(0, 0))
            self.assertEqual(given[-3:], [[-1], [0], [0]], refused)

    def test_what_comes_after_the_sentence_counts(self):
        given = ask(form(0, "SxPx"), holds(0, 0), points(0, 1), holds(0, 0), mark(0, 0, 0, 1), holds(0, 0),
                    form(0, "AxQx"), holds(0, 0), points(0, 0), holds(0, 0), begin(), holds(0, 0))
        self.assertEqual(given[1::2], [[0], [0], [1], [0], [1], [-2]])

    def test_wrong_structure(self):
        for g in WRONG_STRUCTURES:
            self.assertEqual(last(*make("all", 0), *make("all", 1), form(0, "AxPx"), holds(g, 0)), [-1])

    def test_wrong_slot(self):
        filled = [form(slot, "AxPx") for slot in range(8)]
        for slot in WRONG_SLOTS:
            for g in (0, 1):
                self.assertEqual(last(*make("all", g), *filled, holds(g, slot)), [-1])

    def test_empty_slot(self):
        for slot in range(8):
            for g in (0, 1):
                self.assertEqual(last(*make("all", g), form((slot + 1) % 8, "AxPx"), holds(g, slot)), [-2])

    def test_wrong_numbers_are_told_ahead_of_an_empty_slot(self):
        for g in WRONG_STRUCTURES:
            self.assertEqual(ask(holds(g, 0), holds(g, 8), holds(g, -1)), [[-1]] * 3)
        for slot in WRONG_SLOTS:
            self.assertEqual(ask(holds(0, slot), holds(1, slot)), [[-1]] * 2)

    def test_asking_changes_nothing(self):
        made = make("twelfth", 0) + [form(0, "SxAyEyx"), form(1, "AxPx")]
        given = ask(*made, holds(0, 0), holds(0, 1), holds(0, 0), text(0, 9), rank(0), holds(0, 0), holds(1, 0))
        self.assertEqual(given[len(made):], [[1], [0], [1], [7, 83, 120, 65, 121, 69, 121, 120], [2], [1], [0]])


class NestedTest(unittest.TestCase):
    def assert_holds(self, made, sentence, expected):
        self.assertLessEqual(len(sentence), 256)
        self.assertEqual(ask(*made, form(0, sentence), holds(0, 0))[-2:], [[0], [expected]], sentence)

    def test_many_nots(self):
        made = make("some", 0)
        for count in (251, 252):
            self.assert_holds(made, "!" * count + "SxPx", 1 - count % 2)
            self.assert_holds(made, "!" * count + "AxPx", count % 2)
            self.assert_holds(made, "Sx" + "!" * count + "Qx", 1)
            self.assert_holds(made, "Ax" + "!" * count + "Px", 0)
            self.assert_holds(make("all", 0), "Ax" + "!" * count + "Px", 1 - count % 2)

    def test_many_brackets(self):
        for opened, closed in (("(" * 36, "&SxQx)" * 36), ("(SxQx&" * 36, ")" * 36)):
            self.assert_holds(make("all", 0), opened + "AxPx" + closed, 1)
            self.assert_holds(make("some", 0), opened + "AxPx" + closed, 0)
            self.assert_holds(make("last", 0), opened + "SxPx" + closed, 0)
        for opened, closed in (("(" * 36, "|SxQx)" * 36), ("(SxQx|" * 36, ")" * 36)):
            self.assert_holds(make("last", 0), opened + "SxPx" + closed, 1)
            self.assert_holds(make("some", 0), opened + "AxPx" + closed, 1)
            self.assert_holds(make("one", 0), opened + "SxPx" + closed, 0)

    def test_many_brackets_and_nots(self):
        # Where q is so, not (f and q) turns f round, 41 or 42 times; where it isn't, all is so.
        for count in (41, 42):
            sentence = "Sx" + "!(" * count + "Px" + "&Qx)" * count
            self.assert_holds(structure(0, 1, [], [0], [0]), sentence, 1 - count % 2)
            self.assert_holds(structure(0, 1, [], [], [0]), sentence, count % 2)
            self.assert_holds(structure(0, 1, [], [0], []), sentence, 1)

    def test_depth_four_over_twelve_points(self):
        for sentence, so, not_so in (
                ("AuAvSwSx((Euw&Evx)&(=uv|!=wx))", "ring", "twelfth"),
                ("AuSvSwSx(((Euv&Evw)&Ewx)&!=ux)", "ring", "twelve"),
                ("AuSvSwSx(((Euv&Evw)&Ewx)&=ux)", "circle", "ring"),
                ("SuAvAwAx(Evu&(Ewu&Exu))", "twelfth", "ring"),
                ("AuAvAwAx(((!Euv|!Euw)|=vw)|Pu)", "ring", "order")):
            self.assert_holds(make(so, 0), sentence, 1)
            self.assert_holds(make(not_so, 0), sentence, 0)

    def test_one_way_among_all_of_putting_twelve_points_for_four_names(self):
        # 11, 0, 7, 3 is the only way along these arcs, and each name has its own place in it.
        made = structure(0, 12, [(11, 0), (0, 7), (7, 3)], [11, 7], [11, 0])
        for sentence, expected in (
                ("SuSvSwSx((Euv&Evw)&Ewx)", 1),
                ("SuSvSwSx(((Euv&Evw)&Ewx)&((Pu&Qu)&((!Pv&Qv)&((Pw&!Qw)&(!Px&!Qx)))))", 1),
                ("SxSwSvSu(((Euv&Evw)&Ewx)&((Pu&Qu)&((!Pv&Qv)&((Pw&!Qw)&(!Px&!Qx)))))", 1),
                ("SwSuSxSv(((Euv&Evw)&Ewx)&((Pu&Qu)&((!Pv&Qv)&((Pw&!Qw)&(!Px&!Qx)))))", 1),
                ("SuSvSwSx(((Euv&Evw)&Ewx)&((Px&Qx)&((!Pv&Qv)&((Pw&!Qw)&(!Pu&!Qu)))))", 0),
                ("AuAvAwAx((!Euv|!Evw)|!Ewx)", 0),
                ("AuAvAwAx(((!Euv|!Evw)|!Ewx)|(Pu&Pw))", 1),
                ("AuAvAwAx(((!Euv|!Evw)|!Ewx)|(Pu&Px))", 0)):
            self.assert_holds(made, sentence, expected)

    def test_long_sentences_against_the_second_way(self):
        mixed = EDGES + ["!=uv", "=wx", "Pu", "!Qx", "Pw", "Qv", "=ux", "!=vx"]
        plain = Plain(3, [(0, 1), (1, 2), (2, 2), (2, 0)], [1], [0, 2])
        for head in ("AuAvAwAx", "SuSvSwSx", "AuSvAwSx", "SuAvSwAx", "!AuSv!SwAx"):
            for atoms in (EDGES, mixed, mixed[::-1]):
                for joins in ("&|", "|&&", "&|||"):
                    sentence = chain(head, atoms, joins)
                    self.assertGreater(len(sentence), 245)
                    self.assert_holds(plain.calls(0), sentence, int(is_so(sentence, plain)))

    def test_long_sentences_over_twelve_points(self):
        full = Plain(12, [(x, y) for x in range(12) for y in range(12)])
        for head, without_one in (("AuAvAwAx", 0), ("SuSvSwSx", 1), ("AuSvAwSx", 0), ("SuSvAwSx", 0)):
            full.arcs.add((11, 11))
            self.assert_holds(full.calls(0), chain(head, EDGES, "&"), 1)
            self.assert_holds(full.calls(0), chain(head, NO_EDGES, "|"), 0)
            full.arcs.remove((11, 11))
            self.assert_holds(full.calls(0), chain(head, EDGES, "&"), without_one)
            self.assert_holds(full.calls(0), chain(head, NO_EDGES, "|"), int("S" in head))

    def test_twelve_points_asked_as_often_as_may_be(self):
        sentence = chain("AuSvAwSx", EDGES, "&|")
        made = make("ring", 0) + [form(0, sentence)]
        again = [holds(0, 0)] * (399 - len(made))
        given = ask(*made, *again)[len(made):]
        self.assertEqual(given, [given[0]] * len(again))
        self.assertIn(given[0], ([0], [1]))


class SecondWayTest(unittest.TestCase):
    def test_many_sentences_on_many_structures(self):
        chance = random.Random(20)
        found = {0: 0, 1: 0}
        for trial in range(400):
            sentence = some_formula(chance, frozenset(), chance.choice((10, 30, 80, 160)), 0)
            if trial % 3 == 0:
                sentence = f"({sentence}{chance.choice('&|')}{some_formula(chance, frozenset(), 30, 0)})"
            plains = [some_structure(chance, size) for size in (trial % 5, chance.randrange(5))]
            asked = plains[0].calls(0) + plains[1].calls(1) + [form(6, sentence)]
            given = ask(*asked, rank(6), holds(0, 6), holds(1, 6))[len(asked) - 1:]
            expected = [int(is_so(sentence, plain)) for plain in plains]
            self.assertEqual(given, [[0], [depth_of(sentence)], [expected[0]], [expected[1]]], sentence)
            found[expected[0]] += 1
        self.assertGreater(min(found.values()), 100)

    def test_few_sentences_on_twelve_points(self):
        chance = random.Random(21)
        trials = 0
        while trials < 40:
            sentence = some_formula(chance, frozenset(), 40, 0)
            if depth_of(sentence) > 3:
                continue
            plain = some_structure(chance, 12)
            given = last(*plain.calls(0), form(0, sentence), holds(0, 0))
            self.assertEqual(given, [int(is_so(sentence, plain))], sentence)
            trials += 1


if __name__ == "__main__":
    unittest.main()
