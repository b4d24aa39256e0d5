"""Points 5 and 6: form and text."""

import unittest

from tests.calls import HIGHEST, LOWEST, ask, begin, codes_of, form, form_without_row, last, text
from tests.second import NAMES, is_sentence

WRONG_SLOTS = (-1, 8, -8, LOWEST, HIGHEST)
WRONG_COUNTS = (0, -1, 257, LOWEST, HIGHEST)

GOOD = (
    "AxPx", "SxQx", "AxExx", "Sx=xx", "Ax!Px", "!AxPx", "!!SxPx", "AxAyExy", "AxSyEyx",
    "SuSv!=uv", "AwAzEwz", "Ax(Px&Qx)", "Ax(Px|Qx)", "(AxPx&SxQx)", "(AxPx|!SxQx)",
    "Ax((Px&Qx)|!Px)", "Ax(Px|(Qx&!Px))", "Ax(Px&SyExy)", "AxSxPx", "AxSy(AxExy&Px)",
    "Ax(SxPx&Px)", "AxAyPx", "AxAyPy", "AuAvAwAxEux", "AxAxAxAxPx", "SuSvSwSx(Euv&=wx)",
    "(AuAvAwAxEux&SuSvSwSxExu)", "Ax(AyAzAuEyz|SySzSuEyz)",
)

BAD = (
    # no formula at all, or something is missing
    "A", "x", "Ax", "AxP", "AxE", "AxEx", "Ax=", "Ax=x", "Ax!", "!", "(", "()", "Ax()", "Ax(Px)",
    "Ax(Px&)", "Ax(&Px)", "Ax(Px&Qx", "Ax(PxQx)", "AxPx&Qx)", "(AxPx)", "(AxPx&)", "APx", "AxSPx",
    "Ax(Px|", "Ax(Px", "Ax(", "AxSy",
    # something is left over
    "AxPxx", "AxPxPx", "AxPx!", "AxPx)", "AxPx&SxQx", "Ax(Px&Qx))", "Ax(Px&Qx&Px)", "AxPxAxPx",
    "AxExyx", "(AxPx&SxQx)|", "AxPxA",
    # wrong signs, at wrong places
    "axpx", "AxRx", "AtPt", "AxPX", "AXPX", "AaPa", "Ax-Px", "Ax~Px", "Ax(Px^Qx)", "Ax[Px&Qx]",
    "Ax(Px&&Qx)", "Axx=x", "Ax(x=x)", "AxxEx", "Ex!", "AEPx", "A!Px", "AxP!x", "Ax1", "ExPx",
    # blanks and their like
    " AxPx", "AxPx ", "Ax Px", "AxPx\n", "AxPx\t", "Ax(Px & Qx)", " ", "\n", "\0", "AxPx\0",
    # names that nothing binds
    "Px", "Exx", "=xy", "AxPy", "AxExy", "AxEyx", "Ax=xy", "Ax=yx", "!Qz", "(AxPx&Qx)", "(Px&AxQx)",
    "Ax(Px&Qy)", "Ax(AyPy&Qy)", "Ax(Qy&AyPy)", "Ax(SyExy|Exy)", "(AxPx&AyPx)",
    # too deep
    "AxAxAxAxAxPx", "AuAvAwAxAyEuy", "SuAvSwAxSyEuy", "AuAvAwAx!SyPy", "AuAv(AwAxSyPy|Pu)",
    "AuAv(Pu|AwAxSyPy)", "(AxPx&AuAvAwAxAyPy)",
)


def changed_by_one_sign(signs, alphabet):
    for at in range(len(signs) + 1):
        for sign in alphabet:
            yield signs[:at] + sign + signs[at:]
            yield signs[:at] + sign + signs[at + 1:]
        yield signs[:at] + signs[at + 1:]


class FormTest(unittest.TestCase):
    def assert_taken(self, sentence):
        codes = codes_of(sentence)
        self.assertEqual(ask(form(2, sentence), text(2, 256)), [[0], [len(codes)] + codes], sentence)

    def assert_no_sentence(self, sentence):
        self.assertEqual(ask(form(2, sentence), text(2, 256)), [[-2], [-2]], sentence)

    def test_each_sort_of_formula(self):
        for sentence in GOOD:
            self.assert_taken(sentence)

    def test_every_name(self):
        for name in NAMES:
            for other in NAMES:
                self.assert_taken(f"A{name}S{other}(E{name}{other}&={other}{name})")

    def test_no_sentence(self):
        for sentence in BAD:
            self.assert_no_sentence(sentence)

    def test_a_name_is_bound_within_its_own_formula_alone(self):
        self.assert_taken("Ax(Px&Ay(Py&Px))")
        self.assert_taken("Ax(Ax(Px&Qx)&Px)")
        self.assert_no_sentence("Ax(Ay(Py&Px)&Py)")
        self.assert_no_sentence("(Ax(Px&Qx)&Px)")

    def test_depth(self):
        for signs in ("A", "S"):
            binders = "".join(signs + name for name in "uvwxyz")
            for depth in range(1, 5):
                self.assert_taken(binders[:2 * depth] + "Pu")
            for depth in (5, 6):
                self.assert_no_sentence(binders[:2 * depth] + "Pu")

    def test_depth_is_not_how_many_there_are(self):
        self.assert_taken("(AuAvAwAxPx&(SuSvSwSxPx|(AuAvAwAxPx&SuSvSwSxPx)))")
        self.assert_no_sentence("Ay(AuAvAwPw&(SuSvSwPw|(AuAvAwPw&SuSvSwSxPx)))")

    def test_one_byte(self):
        for code in range(256):
            self.assert_no_sentence([code])

    def test_nested_as_deep_as_256_bytes_let(self):
        many = (
            "!" * 252 + "AxPx",
            "Ax" + "!" * 252 + "Px",
            "(" * 36 + "AxPx" + "&SxQx)" * 36,
            "(AxPx|" * 36 + "AxPx" + ")" * 36,
            "Ax!!" + "(" * 50 + "Px" + "&Qx)" * 50,
            "Ax!!" + "(Px|" * 50 + "Qx" + ")" * 50,
            "AxAyAzAw" + "!(" * 40 + "Px" + "&Py)" * 40,
        )
        for sentence in many:
            self.assertLessEqual(len(sentence), 256)
            self.assert_taken(sentence)
        self.assertEqual([len(sentence) for sentence in many[:4]], [256] * 4)

    def test_long_texts_that_are_no_sentence(self):
        for sign in "!(AxE)&= ":
            self.assert_no_sentence(sign * 256)
        for sentence in ("Ax" * 128, "!" * 253 + "AxP", "!" * 254 + "Px", "(" * 252 + "AxPx",
                         "(" * 36 + "AxPx" + "&SxQx)" * 35 + "&SxQx", "Ax" + "!" * 253 + "P",
                         "(" * 36 + "AxPx" + "&SxQx)" * 35 + "&SxQ)x", "AxPx" + "!" * 252):
            self.assert_no_sentence(sentence)

    def test_bytes_that_are_no_sign(self):
        good = codes_of("Ax(Px&Qx)")
        signs = codes_of("!&()=AEPQSuvwxyz|")
        for code in range(256):
            if code not in signs:
                for at in range(len(good)):
                    self.assert_no_sentence(good[:at] + [code] + good[at + 1:])
                self.assert_no_sentence(good + [code])
                self.assert_no_sentence([code] + good)

    def test_bytes_from_128_on_are_not_taken_for_others(self):
        for at, code in enumerate(codes_of("AxPx")):
            higher = codes_of("AxPx")
            higher[at] = code + 128
            self.assert_no_sentence(higher)

    def test_against_a_second_reading(self):
        found = {True: 0, False: 0}
        for sentence in ("AxPx", "Ax(Px&Qx)", "AxSy(Exy|!=yx)", "(AxPx&SyQy)", "AuSvAwSxEux",
                         "Ax(SyExy|(AyEyx&Px))"):
            trials = sorted(set(changed_by_one_sign(sentence, "!&()=AEPQSuxy|")) - {""})
            for first in range(0, len(trials), 190):
                part = trials[first:first + 190]
                calls = []
                for trial in part:
                    calls.extend([form(0, trial), begin()])
                for trial, given in zip(part, ask(*calls)[::2]):
                    expected = is_sentence(trial)
                    found[expected] += 1
                    self.assertEqual(given, [0 if expected else -2], trial)
        self.assertGreater(found[True], 50)
        self.assertGreater(found[False], 1000)

    def test_every_slot_by_itself(self):
        sentences = ["!" * slot + "AxPx" for slot in range(8)]
        filled = [form(slot, sentence) for slot, sentence in enumerate(sentences)]
        given = ask(*filled, *[text(slot, 256) for slot in range(8)])
        self.assertEqual(given[:8], [[0]] * 8)
        self.assertEqual(given[8:], [[len(sentence)] + codes_of(sentence) for sentence in sentences])

    def test_wrong_slot(self):
        asked = [text(slot, 256) for slot in range(8)]
        for slot in WRONG_SLOTS:
            self.assertEqual(ask(form(slot, "AxPx"), *asked), [[-1]] + [[-2]] * 8)

    def test_wrong_n(self):
        for n in WRONG_COUNTS:
            self.assertEqual(ask(form_without_row(0, n), text(0, 1)), [[-1], [-2]])
            self.assertEqual(ask(form_without_row(8, n), text(0, 1)), [[-1], [-2]])

    def test_wrong_slot_is_told_ahead_of_no_sentence(self):
        for slot in WRONG_SLOTS:
            self.assertEqual(last(form(slot, "Px")), [-1])
            self.assertEqual(last(form(slot, [255])), [-1])

    def test_a_refusal_keeps_what_the_slot_has(self):
        kept = [4] + codes_of("AxPx")
        for refused in (form(7, "Px"), form(7, "AxPxx"), form(7, "AuAvAwAxAyPy"),
                        form_without_row(7, 0), form_without_row(7, 257), form(8, "SxQx"), form(-1, "SxQx")):
            self.assertEqual(last(form(7, "AxPx"), refused, text(7, 256)), kept)

    def test_a_new_sentence_takes_the_place_of_the_old(self):
        self.assertEqual(ask(form(7, "Ax(Px&Qx)"), form(7, "SyQy"), text(7, 256)),
                         [[0], [0], [4] + codes_of("SyQy")])


class TextTest(unittest.TestCase):
    def test_most_up_to_and_above_the_length(self):
        codes = codes_of("Ax(Px&Qx)")
        for most in range(1, 257):
            self.assertEqual(last(form(1, "Ax(Px&Qx)"), text(1, most)), [9] + codes[:most])

    def test_most_outside_gives_no_bytes(self):
        for most in (0, -1, -4, 257, 258, LOWEST, HIGHEST):
            self.assertEqual(last(form(1, "AxPx"), text(1, most)), [4])

    def test_the_longest_sentence(self):
        sentence = "!" * 252 + "AxPx"
        codes = codes_of(sentence)
        for most in (1, 255, 256):
            self.assertEqual(last(form(0, sentence), text(0, most)), [256] + codes[:most])
        for most in (0, 257):
            self.assertEqual(last(form(0, sentence), text(0, most)), [256])

    def test_wrong_slot(self):
        for slot in WRONG_SLOTS:
            for most in (-1, 0, 1, 256, 257):
                self.assertEqual(last(form(7, "AxPx"), text(slot, most)), [-1])

    def test_empty_slot(self):
        for slot in range(8):
            for most in (-1, 0, 1, 256, 257):
                self.assertEqual(last(text(slot, most)), [-2])

    def test_wrong_slot_is_told_ahead_of_an_empty_one(self):
        self.assertEqual(ask(text(8, 1), text(-1, 1), text(7, 1)), [[-1], [-1], [-2]])

    def test_asking_changes_nothing(self):
        self.assertEqual(ask(form(0, "AxPx"), text(0, 2), text(0, 0), text(0, 9))[1:],
                         [[4, 65, 120], [4], [4, 65, 120, 80, 120]])


if __name__ == "__main__":
    unittest.main()
