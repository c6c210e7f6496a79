"""Promises 2 to 5: forms, is, same and join."""

import unittest

from helper import (
    A, ABOVE, ABOVE_TOO, ANGSTROM, A_RING, BELOW, C, CEDILLA, C_CEDILLA, LIGATURE, LONG_S, LONG_S_ABOVE, RING,
    S, S_ABOVE, S_BELOW, S_BOTH, ask, ask_one, form, is_form, join, same, small_tables, tables,
)


def form_by(tables_call, number, text):
    return ask_one(tables_call, form(number, text))[1:]


def forms(text, tables_call=None):
    """The text's four forms."""
    told = ask(tables_call or small_tables(), *[form(number, text) for number in range(4)])
    return [answer[1:] for answer in told[1:]]


class WithoutTables(unittest.TestCase):
    def test_a_text_is_its_own_form(self):
        text = [A, RING, ANGSTROM, S, ABOVE, BELOW, 0, 0x10FFFF, 0xE000]
        self.assertEqual(forms(text, tables()), [text] * 4)

    def test_an_empty_text(self):
        self.assertEqual(forms([]), [[]] * 4)


class Syllables(unittest.TestCase):
    def test_apart(self):
        for syllable, parts in (
            (0xAC00, [0x1100, 0x1161]),
            (0xAC01, [0x1100, 0x1161, 0x11A8]),
            (0xAC1B, [0x1100, 0x1161, 0x11C2]),
            (0xAC1C, [0x1100, 0x1162]),
            (0xAE4B, [0x1100, 0x1175, 0x11C2]),
            (0xAE4C, [0x1101, 0x1161]),
            (0xD4DB, [0x1111, 0x1171, 0x11B6]),
            (0xD7A3, [0x1112, 0x1175, 0x11C2]),
        ):
            self.assertEqual(forms([syllable], tables()), [parts, [syllable], parts, [syllable]])
            self.assertEqual(forms(parts, tables()), [parts, [syllable], parts, [syllable]])

    def test_beside_syllables(self):
        for code in (0xABFF, 0xD7A4, 0x10FF, 0x1113, 0x1160, 0x1176, 0x11A7, 0x11C3):
            self.assertEqual(forms([code], tables()), [[code]] * 4)

    def together(self, *codes):
        return form_by(tables(), 1, codes)

    def test_lead_and_vowel(self):
        self.assertEqual(self.together(0x1100, 0x1175), [0xAC00 + 20 * 28])
        self.assertEqual(self.together(0x1112, 0x1161), [0xAC00 + 18 * 21 * 28])
        for lead in (0x10FF, 0x1113):
            self.assertEqual(self.together(lead, 0x1161), [lead, 0x1161])
        for vowel in (0x1160, 0x1176):
            self.assertEqual(self.together(0x1100, vowel), [0x1100, vowel])

    def test_syllable_and_tail(self):
        self.assertEqual(self.together(0xAC00, 0x11A8), [0xAC01])
        self.assertEqual(self.together(0xAC00, 0x11C2), [0xAC1B])
        self.assertEqual(self.together(0xD788, 0x11C2), [0xD7A3])
        for tail in (0x11A7, 0x11C3):
            self.assertEqual(self.together(0xAC00, tail), [0xAC00, tail])
        self.assertEqual(self.together(0xAC01, 0x11A8), [0xAC01, 0x11A8])
        self.assertEqual(self.together(0xABE4, 0x11A8), [0xABE4, 0x11A8])
        self.assertEqual(self.together(0xD7A4, 0x11A8), [0xD7A4, 0x11A8])

    def test_what_does_not_go_together(self):
        for codes in ([0x1100, 0x11A8], [0x1161, 0x11A8], [0x1161, 0x1100], [0x11A8, 0x1161], [0x1161], [0x11A8]):
            self.assertEqual(self.together(*codes), codes)

    def test_several_in_a_row(self):
        self.assertEqual(self.together(0x1100, 0x1100, 0x1161, 0x1161, 0x1100), [0x1100, 0xAC00, 0x1161, 0x1100])
        self.assertEqual(self.together(0x1100, 0x1161, 0x11A8, 0x11A8), [0xAC01, 0x11A8])
        self.assertEqual(self.together(0x1100, 0x1161, 0x11A8, 0x1102, 0x1161), [0xAC01, 0xB098])

    def test_a_mark_keeps_parts_apart(self):
        self.assertEqual(form_by(small_tables(), 1, [0x1100, BELOW, 0x1161]), [0x1100, BELOW, 0x1161])
        self.assertEqual(form_by(small_tables(), 1, [0xAC00, BELOW, 0x11A8]), [0xAC00, BELOW, 0x11A8])
        self.assertEqual(form_by(small_tables(), 1, [0x1100, 0x1161, BELOW]), [0xAC00, BELOW])

    def test_parts_that_come_from_rows(self):
        # 0x3131 comes apart loosely into a lead, 0x3132 strictly into a vowel with a tail.
        rows = tables(pool=[0x1100, 0x1161, 0x11A8], dec=[(0x3131, 1, 0, 1), (0x3132, 0, 1, 2)])
        text = [0x3131, 0x3132]
        self.assertEqual(forms(text, rows), [
            [0x3131, 0x1161, 0x11A8], [0x3131, 0x1161, 0x11A8], [0x1100, 0x1161, 0x11A8], [0xAC01]])

    def test_a_pair_of_a_lead_and_a_tail(self):
        rows = tables(pool=[0x1100, 0x11A8], dec=[(0x3000, 0, 0, 2)], pair=[(0x1100, 0x11A8, 0x3000)])
        self.assertEqual(form_by(rows, 1, [0x1100, 0x11A8, 0x1100, 0x1161, 0x11A8]), [0x3000, 0xAC01])


class Apart(unittest.TestCase):
    def test_strictly(self):
        self.assertEqual(forms([S_BOTH])[0], [S, BELOW, ABOVE])
        self.assertEqual(forms([ANGSTROM, C_CEDILLA])[0], [A, RING, C, CEDILLA])
        self.assertEqual(forms([LONG_S])[0], [LONG_S])
        self.assertEqual(forms([LIGATURE])[0], [LIGATURE])

    def test_a_loose_record_counts_before_a_strict_one(self):
        self.assertEqual(forms([LONG_S_ABOVE]), [[LONG_S, ABOVE], [LONG_S_ABOVE], [S, ABOVE], [S_ABOVE]])

    def test_loosely_by_strict_records_too(self):
        self.assertEqual(forms([S_BOTH])[2], [S, BELOW, ABOVE])
        self.assertEqual(forms([LIGATURE, ANGSTROM, LONG_S])[2], [S, 0x74, A, RING, S])

    def test_rows_of_one_and_of_four(self):
        rows = tables(pool=[1, 2, 3, 4], dec=[(0x41, 0, 1, 1), (0x42, 0, 0, 4), (0x43, 1, 2, 2)])
        self.assertEqual(forms([0x41, 0x42, 0x43], rows)[::2], [[2, 1, 2, 3, 4, 0x43], [2, 1, 2, 3, 4, 3, 4]])


class InOrder(unittest.TestCase):
    CLS = [(1, 1, 1), (2, 3, 9), (4, 4, 254), (5, 9, 30)]

    def ordered(self, *codes):
        return form_by(tables(cls=self.CLS), 0, codes)

    def test_by_class(self):
        self.assertEqual(self.ordered(0x41, 4, 5, 2, 1), [0x41, 1, 2, 5, 4])
        self.assertEqual(forms([S, ABOVE, BELOW, CEDILLA])[0], [S, CEDILLA, BELOW, ABOVE])

    def test_stably(self):
        self.assertEqual(self.ordered(0x41, 3, 2, 1, 9, 5, 7, 2, 3), [0x41, 1, 3, 2, 2, 3, 9, 5, 7])

    def test_each_stretch_by_itself(self):
        self.assertEqual(self.ordered(4, 1, 0x41, 4, 0x42, 5, 1, 0x43, 1), [1, 4, 0x41, 4, 0x42, 1, 5, 0x43, 1])
        self.assertEqual(self.ordered(4, 2, 1), [1, 2, 4])

    def test_at_the_ends_of_a_range(self):
        self.assertEqual(self.ordered(0, 4, 5), [0, 5, 4])
        self.assertEqual(self.ordered(0, 4, 9), [0, 9, 4])
        self.assertEqual(self.ordered(0, 4, 10), [0, 4, 10])
        self.assertEqual(self.ordered(4, 0, 1), [4, 0, 1])

    def test_in_all_forms(self):
        self.assertEqual(forms([0x41, 4, 1], tables(cls=self.CLS)), [[0x41, 1, 4]] * 4)

    def test_rows_are_put_in_order_with_their_neighbours(self):
        self.assertEqual(forms([S_ABOVE, BELOW])[0], [S, BELOW, ABOVE])
        self.assertEqual(forms([S_BOTH, CEDILLA])[0], [S, CEDILLA, BELOW, ABOVE])
        # 0x41 is no mark, but begins with one: what comes ahead of it is put in order with that.
        rows = tables(pool=[1, 0x61], dec=[(0x41, 0, 0, 2)], cls=self.CLS)
        self.assertEqual(forms([0x42, 4, 0x41], rows)[0], [0x42, 1, 4, 0x61])


class Together(unittest.TestCase):
    def together(self, *codes):
        return form_by(small_tables(), 1, codes)

    def test_a_pair(self):
        self.assertEqual(self.together(S, ABOVE), [S_ABOVE])
        self.assertEqual(self.together(ANGSTROM), [A_RING])
        self.assertEqual(self.together(A, RING, C, CEDILLA), [A_RING, C_CEDILLA])

    def test_the_base_becomes_what_they_are(self):
        self.assertEqual(self.together(S, BELOW, ABOVE), [S_BOTH])
        self.assertEqual(self.together(S, ABOVE, BELOW), [S_BOTH])
        self.assertEqual(self.together(S_ABOVE, BELOW), [S_BOTH])
        self.assertEqual(self.together(S_BELOW, ABOVE, ABOVE), [S_BOTH, ABOVE])

    def test_past_a_mark_of_a_lower_class(self):
        self.assertEqual(self.together(S, CEDILLA, ABOVE), [S_ABOVE, CEDILLA])
        self.assertEqual(self.together(A, BELOW, RING), [A_RING, BELOW])
        self.assertEqual(self.together(A, CEDILLA, BELOW, RING), [A_RING, CEDILLA, BELOW])

    def test_not_past_a_mark_of_the_same_class(self):
        self.assertEqual(self.together(S, ABOVE_TOO, ABOVE), [S, ABOVE_TOO, ABOVE])
        self.assertEqual(self.together(S, BELOW, ABOVE_TOO, ABOVE), [S_BELOW, ABOVE_TOO, ABOVE])
        self.assertEqual(self.together(S, CEDILLA, ABOVE_TOO, ABOVE), [S, CEDILLA, ABOVE_TOO, ABOVE])

    def test_only_the_last_one_between_counts(self):
        self.assertEqual(self.together(S, CEDILLA, BELOW, ABOVE), [S_BOTH, CEDILLA])
        self.assertEqual(self.together(C, BELOW, BELOW, CEDILLA), [C_CEDILLA, BELOW, BELOW])

    def test_not_past_a_mark_of_a_higher_class(self):
        rows = tables(pool=[0x61, 0x62], dec=[(0x3000, 0, 0, 2)], pair=[(0x61, 0x62, 0x3000)], cls=[(1, 1, 1)])
        self.assertEqual(form_by(rows, 1, [0x61, 0x62]), [0x3000])
        self.assertEqual(form_by(rows, 1, [0x61, 1, 0x62]), [0x61, 1, 0x62])
        self.assertEqual(form_by(rows, 1, [0x61, 0x63, 0x62]), [0x61, 0x63, 0x62])

    def test_only_the_last_base_counts(self):
        self.assertEqual(self.together(S, A, ABOVE), [S, A, ABOVE])
        self.assertEqual(self.together(A, S, ABOVE, RING), [A, S_ABOVE, RING])

    def test_no_base_at_first(self):
        self.assertEqual(self.together(ABOVE, RING), [ABOVE, RING])
        self.assertEqual(self.together(ABOVE), [ABOVE])
        self.assertEqual(self.together(ABOVE, S, ABOVE), [ABOVE, S_ABOVE])
        self.assertEqual(self.together(BELOW, ABOVE, S, ABOVE), [BELOW, ABOVE, S_ABOVE])

    def test_a_letter_that_goes_into_the_base_is_no_base(self):
        # 0x61 and 0x62 are 0x3000, 0x3000 and 0x63 are 0x3001; 0x62 and 0x63 would be 0x3002.
        rows = tables(
            pool=[0x61, 0x62, 0x63], dec=[(0x3000, 0, 0, 2), (0x3001, 0, 0, 3), (0x3002, 0, 1, 2)],
            pair=[(0x61, 0x62, 0x3000), (0x62, 0x63, 0x3002), (0x3000, 0x63, 0x3001)])
        self.assertEqual(form_by(rows, 1, [0x61, 0x62, 0x63]), [0x3001])
        self.assertEqual(form_by(rows, 1, [0x62, 0x63, 0x61, 0x62]), [0x3002, 0x3000])

    def test_a_code_point_that_no_pair_makes_stays_apart(self):
        rows = tables(pool=[0x915, 0x93C], dec=[(0x958, 0, 0, 2)], cls=[(0x93C, 0x93C, 7)])
        self.assertEqual(forms([0x958], rows), [[0x915, 0x93C]] * 4)

    def test_loosely(self):
        self.assertEqual(forms([LONG_S, ABOVE, BELOW])[1], [LONG_S_ABOVE, BELOW])
        self.assertEqual(forms([LONG_S, ABOVE, BELOW])[3], [S_BOTH])
        self.assertEqual(forms([LONG_S_ABOVE, BELOW])[3], [S_BOTH])


class Is(unittest.TestCase):
    def told(self, text):
        return [answer[1] for answer in ask(small_tables(), *[is_form(number, text) for number in range(4)])[1:]]

    def test_is(self):
        self.assertEqual(self.told([]), [1, 1, 1, 1])
        self.assertEqual(self.told([A, 0x42]), [1, 1, 1, 1])
        self.assertEqual(self.told([A, RING]), [1, 0, 1, 0])
        self.assertEqual(self.told([A_RING]), [0, 1, 0, 1])
        self.assertEqual(self.told([ANGSTROM]), [0, 0, 0, 0])
        self.assertEqual(self.told([LONG_S]), [1, 1, 0, 0])
        self.assertEqual(self.told([LONG_S_ABOVE]), [0, 1, 0, 0])
        self.assertEqual(self.told([A, ABOVE, BELOW]), [0, 0, 0, 0])
        self.assertEqual(self.told([A, BELOW, ABOVE]), [1, 1, 1, 1])
        self.assertEqual(self.told([0xAC01]), [0, 1, 0, 1])
        self.assertEqual(self.told([0x1100, 0x1161]), [1, 0, 1, 0])

    def test_answer_of_two_numbers(self):
        self.assertEqual(ask(is_form(1, [A]), is_form(0, [0xAC00])), [[0, 1], [0, 0]])


class Same(unittest.TestCase):
    def told(self, x, y):
        answers = ask(small_tables(), same(0, x, y), same(2, x, y), same(0, y, x), same(2, y, x))[1:]
        self.assertEqual(answers[:2], answers[2:])
        return [answer[1] for answer in answers[:2]]

    def test_same(self):
        self.assertEqual(self.told([], []), [1, 1])
        self.assertEqual(self.told([S, ABOVE, BELOW], [S_BELOW, ABOVE]), [1, 1])
        self.assertEqual(self.told([S_BOTH], [S, ABOVE, BELOW]), [1, 1])
        self.assertEqual(self.told([ANGSTROM], [A_RING]), [1, 1])
        self.assertEqual(self.told([0xAC01], [0x1100, 0x1161, 0x11A8]), [1, 1])

    def test_same_loosely_alone(self):
        self.assertEqual(self.told([LONG_S], [S]), [0, 1])
        self.assertEqual(self.told([LIGATURE], [S, 0x74]), [0, 1])
        self.assertEqual(self.told([LONG_S_ABOVE, BELOW], [S_BOTH]), [0, 1])

    def test_not_the_same(self):
        self.assertEqual(self.told([], [A]), [0, 0])
        self.assertEqual(self.told([A], [A, A]), [0, 0])
        self.assertEqual(self.told([S, ABOVE, ABOVE_TOO], [S, ABOVE_TOO, ABOVE]), [0, 0])
        self.assertEqual(self.told([S, A, ABOVE], [S, ABOVE, A]), [0, 0])


class Join(unittest.TestCase):
    def told(self, number, x, y):
        return ask_one(small_tables(), join(number, x, y))

    def test_join(self):
        self.assertEqual(self.told(0, [A], [C]), [0, A, C])
        self.assertEqual(self.told(1, [], []), [0])
        self.assertEqual(self.told(1, [], [A, RING]), [0, A_RING])
        self.assertEqual(self.told(0, [A_RING], []), [0, A, RING])

    def test_what_stands_at_the_seam_is_put_in_order(self):
        self.assertEqual(self.told(0, [S, ABOVE], [BELOW, A]), [0, S, BELOW, ABOVE, A])
        self.assertEqual(self.told(0, [BELOW, A], [S, ABOVE]), [0, BELOW, A, S, ABOVE])

    def test_what_stands_at_the_seam_goes_together(self):
        self.assertEqual(self.told(1, [S, ABOVE], [BELOW]), [0, S_BOTH])
        self.assertEqual(self.told(1, [A], [RING, A]), [0, A_RING, A])
        self.assertEqual(self.told(3, [LONG_S], [BELOW, ABOVE]), [0, S_BOTH])
        self.assertEqual(self.told(2, [LONG_S], [BELOW]), [0, S, BELOW])
        self.assertEqual(self.told(1, [0x1100], [0x1161, 0x11A8]), [0, 0xAC01])
        self.assertEqual(self.told(1, [0xAC00], [0x11A8]), [0, 0xAC01])

    def test_the_longest_texts(self):
        told = self.told(0, [S_BOTH] * 100, [S_BOTH] * 100)
        self.assertEqual(told, [0] + [S, BELOW, ABOVE] * 200)
        marks = self.told(1, [S] + [ABOVE] * 99, [BELOW] * 100)
        self.assertEqual(marks, [0, S_BOTH] + [BELOW] * 99 + [ABOVE] * 98)


if __name__ == "__main__":
    unittest.main()
