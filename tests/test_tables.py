"""Promise 1: tables, the seven rules of right ones, and the place of the first record that breaks one."""

import unittest

from helper import (
    A, ABOVE, ABOVE_TOO, BELOW, C_CEDILLA, LIGATURE, LONG_S, LONG_S_ABOVE, RING, S, S_ABOVE, S_BELOW, S_BOTH, CEDILLA,
    ask, ask_one, form, small, small_tables, tables,
)

GOOD = [0, 0, 0]
CODE_POINTS = (0, 0x41, 0xD7FF, 0xE000, 0x10FFFF)
NO_CODE_POINTS = (0xD800, 0xDBFF, 0xDFFF, 0x110000, 4294967295)
SYLLABLES = (0xAC00, 0xAC01, 0xD7A3)
PARTS = (0x1100, 0x1112, 0x1161, 0x1175, 0x11A8, 0x11C2)
BESIDE_PARTS = (0x10FF, 0x1113, 0x1160, 0x1176, 0x11A7, 0x11C3, 0xABFF, 0xD7A4)


def judged(**rows):
    return ask_one(tables(**rows))


def changed(row, place, *record):
    """The small tables, with one record of a row put in another's place."""
    rows = small()
    rows[row][place] = record if len(record) > 1 else record[0]
    return judged(**rows)


class RightTables(unittest.TestCase):
    def test_no_records(self):
        self.assertEqual(judged(), GOOD)

    def test_small_tables(self):
        self.assertEqual(ask_one(small_tables()), GOOD)


class RuleOfPool(unittest.TestCase):
    def test_numbers_that_may_stand(self):
        for code in CODE_POINTS + BESIDE_PARTS + PARTS:
            self.assertEqual(judged(pool=[code, 0x41, code]), GOOD, hex(code))

    def test_numbers_that_may_not(self):
        for code in NO_CODE_POINTS + SYLLABLES:
            self.assertEqual(judged(pool=[code, 0x41]), [0, 1, 0], hex(code))
            self.assertEqual(judged(pool=[0x41, 0x41, code, code]), [0, 1, 2], hex(code))


class RuleOfClasses(unittest.TestCase):
    def at_both(self, *record):
        self.assertEqual(judged(cls=[record]), [0, 2, 0], record)
        self.assertEqual(judged(cls=[(1, 1, 1), (2, 4, 9), record]), [0, 2, 2], record)

    def test_ranges_that_may_stand(self):
        for code in CODE_POINTS + BESIDE_PARTS:
            self.assertEqual(judged(cls=[(code, code, 1)]), GOOD, hex(code))
        self.assertEqual(judged(cls=[(0, 0x10FF, 1)]), GOOD)
        self.assertEqual(judged(cls=[(0x1113, 0x1160, 1), (0x1176, 0x11A7, 1), (0x11C3, 0xABFF, 1)]), GOOD)
        self.assertEqual(judged(cls=[(0xD7A4, 0x10FFFF, 1)]), GOOD)
        self.assertEqual(judged(cls=[(0xD7FF, 0xE000, 1)]), GOOD)

    def test_first_and_last_are_code_points(self):
        for code in NO_CODE_POINTS:
            self.at_both(code, 0x10FFFF, 1)
            self.at_both(0xD7FF, code, 1)

    def test_first_is_at_most_last(self):
        self.at_both(0x301, 0x300, 1)

    def test_class_from_1_to_254(self):
        self.assertEqual(judged(cls=[(5, 5, 1), (6, 6, 254)]), GOOD)
        self.at_both(5, 5, 0)
        self.at_both(5, 5, 255)
        self.at_both(5, 5, 4294967295)

    def test_each_behind_the_one_before(self):
        self.assertEqual(judged(cls=[(5, 9, 1), (10, 10, 1)]), GOOD)
        self.assertEqual(judged(cls=[(5, 9, 1), (9, 10, 1)]), [0, 2, 1])
        self.assertEqual(judged(cls=[(5, 9, 1), (5, 10, 1)]), [0, 2, 1])
        self.assertEqual(judged(cls=[(1, 1, 1), (5, 9, 1), (2, 3, 1)]), [0, 2, 2])

    def test_none_touches_syllables_or_their_parts(self):
        for low, high in ((0x1100, 0x1112), (0x1161, 0x1175), (0x11A8, 0x11C2), (0xAC00, 0xD7A3)):
            self.at_both(low - 1, low, 1)
            self.at_both(high, high + 1, 1)
            self.at_both(low - 1, high + 1, 1)
            self.at_both(low + 1, low + 2, 1)


class RuleOfRecords(unittest.TestCase):
    def at_both(self, *record):
        pool = [0x61, 0x62, 0x63, 0x64, 0x65]
        self.assertEqual(judged(pool=pool, dec=[record]), [0, 3, 0], record)
        self.assertEqual(judged(pool=pool, dec=[(1, 0, 0, 1), (2, 1, 1, 4), record]), [0, 3, 2], record)

    def test_code_is_a_code_point_and_no_part(self):
        for code in CODE_POINTS + BESIDE_PARTS:
            self.assertEqual(judged(pool=[0x61], dec=[(code, 0, 0, 1)]), GOOD, hex(code))
        for code in NO_CODE_POINTS + SYLLABLES + PARTS:
            self.at_both(code, 0, 0, 1)
            self.at_both(code, 1, 0, 1)

    def test_kind_is_0_or_1(self):
        self.at_both(5, 2, 0, 1)
        self.at_both(5, 4294967295, 0, 1)

    def test_rising_by_code_then_kind(self):
        pool = [0x61]
        self.assertEqual(judged(pool=pool, dec=[(5, 0, 0, 1), (4, 0, 0, 1)]), [0, 3, 1])
        self.assertEqual(judged(pool=pool, dec=[(5, 0, 0, 1), (4, 1, 0, 1)]), [0, 3, 1])
        self.assertEqual(judged(pool=pool, dec=[(5, 1, 0, 1), (5, 0, 0, 1)]), [0, 3, 1])
        self.assertEqual(judged(pool=pool, dec=[(5, 1, 0, 1), (6, 0, 0, 1)]), GOOD)

    def test_each_code_and_kind_once(self):
        self.assertEqual(judged(pool=[0x61], dec=[(5, 0, 0, 1), (5, 0, 0, 1)]), [0, 3, 1])
        self.assertEqual(judged(pool=[0x61], dec=[(4, 1, 0, 1), (5, 1, 0, 1), (5, 1, 0, 1)]), [0, 3, 2])

    def test_n_from_1_to_4(self):
        for n in (1, 2, 3, 4):
            self.assertEqual(judged(pool=[0x61] * 5, dec=[(5, 0, 0, n)]), GOOD, n)
        for n in (0, 5, 4294967295):
            self.at_both(5, 0, 0, n)

    def test_row_lies_in_pool(self):
        self.assertEqual(judged(pool=[0x61] * 5, dec=[(5, 0, 1, 4), (6, 0, 4, 1)]), GOOD)
        self.at_both(5, 0, 2, 4)
        self.at_both(5, 0, 5, 1)
        self.at_both(5, 0, 4294967295, 1)
        self.assertEqual(judged(dec=[(5, 0, 0, 1)]), [0, 3, 0])


class RuleOfRows(unittest.TestCase):
    def test_no_strict_record_within_a_strict_row(self):
        self.assertEqual(judged(pool=[5], dec=[(5, 0, 0, 1)]), [0, 4, 0])
        self.assertEqual(judged(pool=[0x61, 6], dec=[(5, 0, 0, 2), (6, 0, 0, 1)]), [0, 4, 0])
        self.assertEqual(judged(pool=[0x61, 6], dec=[(6, 0, 0, 1), (7, 0, 0, 2)]), [0, 4, 1])

    def test_no_record_within_a_loose_row(self):
        self.assertEqual(judged(pool=[5], dec=[(5, 1, 0, 1)]), [0, 4, 0])
        self.assertEqual(judged(pool=[0x61, 6], dec=[(5, 1, 0, 2), (6, 0, 0, 1)]), [0, 4, 0])
        self.assertEqual(judged(pool=[0x61, 6], dec=[(6, 1, 0, 1), (7, 1, 0, 2)]), [0, 4, 1])

    def test_a_strict_row_with_a_loose_record_asks_for_a_loose_one(self):
        rows = dict(pool=[0x61, 6, 0x62, 0x62], dec=[(6, 1, 0, 1), (7, 0, 1, 2)])
        self.assertEqual(judged(**rows), [0, 4, 1])
        rows["dec"] += [(7, 1, 2, 1)]
        self.assertEqual(judged(**rows), [0, 4, 2])
        rows = dict(pool=[6, 0x62, 0x61, 0x62], dec=[(6, 1, 2, 1), (7, 0, 0, 2), (7, 1, 2, 2)])
        self.assertEqual(judged(**rows), GOOD)

    def test_a_strict_row_without_one_allows_no_loose_one(self):
        self.assertEqual(judged(pool=[0x61], dec=[(7, 0, 0, 1), (7, 1, 0, 1)]), [0, 4, 0])
        self.assertEqual(judged(pool=[0x61], dec=[(6, 1, 0, 1), (7, 0, 0, 1), (7, 1, 0, 1)]), [0, 4, 1])

    def test_loose_row_is_the_strict_row_apart_loosely(self):
        self.assertEqual(changed("dec", 7, LONG_S_ABOVE, 1, 0, 1), [0, 4, 7])
        self.assertEqual(changed("dec", 7, LONG_S_ABOVE, 1, 0, 2), [0, 4, 7])
        self.assertEqual(changed("dec", 6, LONG_S_ABOVE, 0, 3, 2), [0, 4, 6])

    def test_loose_row_is_put_in_order(self):
        # 5 is a mark above, 6 comes apart loosely into a letter with a mark above, 7 is 6 with a mark below.
        cls = [(5, 5, 230), (8, 8, 220)]
        dec = [(6, 1, 0, 2), (7, 0, 2, 2), (7, 1, 4, 3)]
        self.assertEqual(judged(pool=[0x61, 5, 6, 8, 0x61, 8, 5], dec=dec, cls=cls), GOOD)
        self.assertEqual(judged(pool=[0x61, 5, 6, 8, 0x61, 5, 8], dec=dec, cls=cls), [0, 4, 2])

    def test_rows_of_a_mark_have_its_class(self):
        cls = [(ABOVE, ABOVE_TOO, 230), (BELOW, BELOW, 220), (0x344, 0x344, 230)]
        for kind in (0, 1):
            dec = [(0x344, kind, 0, 2)]
            self.assertEqual(judged(pool=[ABOVE_TOO, ABOVE], dec=dec, cls=cls), GOOD)
            self.assertEqual(judged(pool=[BELOW, ABOVE], dec=dec, cls=cls), [0, 4, 0])
            self.assertEqual(judged(pool=[ABOVE, 0x61], dec=dec, cls=cls), [0, 4, 0])
            self.assertEqual(judged(pool=[0x61, ABOVE], dec=dec, cls=cls), [0, 4, 0])
            later = [(0x61, 0, 0, 1), (0x344, kind, 1, 1)]
            self.assertEqual(judged(pool=[ABOVE, BELOW], dec=later, cls=cls), [0, 4, 1])

    def test_a_letter_may_come_apart_into_marks(self):
        self.assertEqual(judged(pool=[BELOW, ABOVE], dec=[(5, 0, 0, 2)], cls=[(ABOVE, ABOVE, 230)]), GOOD)

    def test_each_row_is_in_order(self):
        cls = [(ABOVE, ABOVE_TOO, 230), (BELOW, BELOW, 220)]
        for kind in (0, 1):
            dec = [(4, kind, 0, 1), (5, kind, 0, 4)]
            for pool in ([0x61, BELOW, ABOVE, 0x62], [ABOVE, 0x61, BELOW, ABOVE], [0x61, ABOVE_TOO, ABOVE, 0x61]):
                self.assertEqual(judged(pool=pool, dec=dec, cls=cls), GOOD, pool)
            for pool in ([0x61, ABOVE, BELOW, 0x62], [ABOVE, BELOW, 0x61, 0x61], [0x61, 0x61, ABOVE, BELOW]):
                self.assertEqual(judged(pool=pool, dec=dec, cls=cls), [0, 4, 1], pool)


class RuleOfPairs(unittest.TestCase):
    # 0x3000 is 0x61 and 0x62, 0x3001 is 0x62 and 0x63, 0x3002 is 0x3000 and 0x63.
    POOL = [0x61, 0x62, 0x63]
    DEC = [(0x3000, 0, 0, 2), (0x3001, 0, 1, 2), (0x3002, 0, 0, 3)]
    PAIR = [(0x61, 0x62, 0x3000), (0x62, 0x63, 0x3001)]

    def judged_pairs(self, *pairs, **rows):
        rows = dict(dict(pool=self.POOL, dec=self.DEC), **rows)
        return judged(pair=pairs, **rows)

    def test_right_pairs(self):
        self.assertEqual(self.judged_pairs(*self.PAIR), GOOD)
        self.assertEqual(self.judged_pairs(*self.PAIR, (0x3000, 0x63, 0x3002)), GOOD)
        self.assertEqual(self.judged_pairs((0x61, 0x3001, 0x3002), *self.PAIR[1:]), GOOD)

    def test_a_b_c_are_code_points_and_no_syllables(self):
        for code in NO_CODE_POINTS + SYLLABLES:
            for pair in ((code, 0x62, 0x3000), (0x61, code, 0x3000), (0x61, 0x62, code)):
                self.assertEqual(self.judged_pairs(pair), [0, 5, 0], pair)
            self.assertEqual(self.judged_pairs(*self.PAIR, (code, 0x62, 0x3000)), [0, 5, 2])

    def test_a_syllable_never_goes_into_a_pair(self):
        dec = [(0x3000, 0, 0, 3)]
        self.assertEqual(judged(pool=[0x1100, 0x1161, 0x41], dec=dec, pair=[(0xAC00, 0x41, 0x3000)]), [0, 5, 0])
        self.assertEqual(judged(pool=[0x41, 0x1100, 0x1161], dec=dec, pair=[(0x41, 0xAC00, 0x3000)]), [0, 5, 0])

    def test_rising_by_a_then_b_each_two_once(self):
        pool = [0x61, 0x62, 0x61, 0x63]
        dec = [(0x3000, 0, 0, 2), (0x3001, 0, 2, 2), (0x3002, 0, 0, 2)]
        first, second = (0x61, 0x62, 0x3000), (0x61, 0x63, 0x3001)
        self.assertEqual(judged(pool=pool, dec=dec, pair=[first, second]), GOOD)
        self.assertEqual(judged(pool=pool, dec=dec, pair=[second, first]), [0, 5, 1])
        self.assertEqual(judged(pool=pool, dec=dec, pair=[first, first]), [0, 5, 1])
        self.assertEqual(judged(pool=pool, dec=dec, pair=[first, (0x61, 0x62, 0x3002)]), [0, 5, 1])
        self.assertEqual(self.judged_pairs(*reversed(self.PAIR)), [0, 5, 1])

    def test_no_beginning_of_a_syllable(self):
        for a in (0x10FF, 0x1100, 0x1112, 0x1113):
            for b in (0x1160, 0x1161, 0x1175, 0x1176):
                inside = 0x1100 <= a <= 0x1112 and 0x1161 <= b <= 0x1175
                answer = judged(pool=[a, b], dec=[(0x3000, 0, 0, 2)], pair=[(a, b, 0x3000)])
                self.assertEqual(answer, [0, 5, 0] if inside else GOOD, (hex(a), hex(b)))
        self.assertEqual(
            judged(pool=[0x1100, 0x11A8], dec=[(0x3000, 0, 0, 2)], pair=[(0x1100, 0x11A8, 0x3000)]), GOOD)

    def test_a_and_c_have_class_0(self):
        self.assertEqual(self.judged_pairs(*self.PAIR, cls=[(0x61, 0x61, 9)]), [0, 5, 0])
        self.assertEqual(self.judged_pairs(*self.PAIR, cls=[(0x63, 0x63, 9)]), GOOD)
        # 5 has class 0, what it comes apart into and c have not.
        dec = [(5, 0, 0, 1), (0x3000, 0, 0, 2)]
        cls = [(1, 2, 9), (0x3000, 0x3000, 9)]
        self.assertEqual(judged(pool=[1, 2], dec=dec, pair=[(5, 2, 0x3000)], cls=cls), [0, 5, 0])

    def test_a_begins_with_class_0(self):
        # 5 has class 0 but comes apart into a mark and a letter.
        dec = [(5, 0, 0, 2), (6, 0, 0, 3)]
        pair = [(5, 0x62, 6)]
        self.assertEqual(judged(pool=[0x300, 0x61, 0x62], dec=dec, pair=pair, cls=[(0x300, 0x300, 9)]), [0, 5, 0])
        self.assertEqual(judged(pool=[0x300, 0x61, 0x62], dec=dec, pair=pair), GOOD)
        self.assertEqual(judged(pool=[0x61, 0x300, 0x62], dec=dec, pair=pair, cls=[(0x300, 0x300, 9)]), GOOD)

    def test_c_has_a_strict_record(self):
        self.assertEqual(self.judged_pairs((0x61, 0x62, 0x2000)), [0, 5, 0])
        self.assertEqual(self.judged_pairs(*self.PAIR, (0x63, 0x61, 0x2000)), [0, 5, 2])
        self.assertEqual(judged(pool=[0x61, 0x62], dec=[(0x3000, 1, 0, 2)], pair=[(0x61, 0x62, 0x3000)]), [0, 5, 0])

    def test_row_of_c_is_a_and_b_apart(self):
        self.assertEqual(self.judged_pairs((0x61, 0x62, 0x3001)), [0, 5, 0])
        self.assertEqual(self.judged_pairs((0x61, 0x62, 0x3002)), [0, 5, 0])
        self.assertEqual(self.judged_pairs(*self.PAIR, (0x63, 0x61, 0x3001)), [0, 5, 2])
        self.assertEqual(self.judged_pairs(*self.PAIR, (0x3001, 0x61, 0x3002)), [0, 5, 2])

    def test_row_of_c_is_put_in_order(self):
        self.assertEqual(changed("pair", 5, S_ABOVE, BELOW, S_BOTH), GOOD)

    def test_loose_records_do_not_count(self):
        # 6 comes apart loosely alone, so it stands whole in the row of 7.
        rows = dict(pool=[6, 0x62, 0x61, 0x62], dec=[(6, 1, 2, 1), (7, 0, 0, 2), (7, 1, 2, 2)])
        self.assertEqual(judged(pair=[(6, 0x62, 7)], **rows), GOOD)
        self.assertEqual(judged(pair=[(0x61, 0x62, 7)], **rows), [0, 5, 0])
        # That 6 begins with a mark loosely is nothing to its pairs.
        self.assertEqual(judged(pair=[(6, 0x62, 7)], cls=[(0x61, 0x61, 9)], **rows), GOOD)


class RuleOfKeys(unittest.TestCase):
    WEIGHT = [(2, 2, 2)] * 5

    def at_both(self, *record):
        rows = dict(pool=[0x61], dec=[(0x3000, 0, 0, 1), (0x3001, 1, 0, 1)], weight=self.WEIGHT)
        self.assertEqual(judged(key=[record], **rows), [0, 6, 0], record)
        before = [(1, 0, 1, 0, 0, 0), (2, 0, 4, 0, 1, 0)]
        self.assertEqual(judged(key=before + [record], **rows), [0, 6, 2], record)

    def test_n_from_1_to_3(self):
        self.at_both(0, 0, 1, 0, 0, 0)
        self.at_both(0, 0, 1, 5, 0, 0)
        self.at_both(4, 0, 1, 5, 6, 7)
        self.at_both(4294967295, 0, 1, 5, 6, 7)

    def test_first_n_are_code_points(self):
        for code in CODE_POINTS + BESIDE_PARTS + PARTS + (0x3001,):
            record = (3, 0, 1, code, code, code)
            self.assertEqual(judged(key=[record], pool=[0x61], dec=[(0x3001, 1, 0, 1)], weight=self.WEIGHT), GOOD)
        for code in NO_CODE_POINTS + SYLLABLES:
            self.at_both(1, 0, 1, code, 0, 0)
            self.at_both(2, 0, 1, 5, code, 0)
            self.at_both(3, 0, 1, 5, 5, code)

    def test_none_has_a_strict_record(self):
        self.at_both(1, 0, 1, 0x3000, 0, 0)
        self.at_both(2, 0, 1, 5, 0x3000, 0)
        self.at_both(3, 0, 1, 5, 5, 0x3000)

    def test_the_others_are_0(self):
        self.at_both(1, 0, 1, 5, 6, 0)
        self.at_both(1, 0, 1, 5, 0, 6)
        self.at_both(2, 0, 1, 5, 6, 7)

    def test_rising_by_first_second_third(self):
        records = [(1, 0, 1, 5, 0, 0), (3, 0, 1, 5, 0, 6), (2, 0, 1, 5, 6, 0), (3, 0, 1, 5, 6, 1), (1, 0, 1, 6, 0, 0)]
        self.assertEqual(judged(key=records, weight=self.WEIGHT), GOOD)
        for place in range(1, 5):
            swapped = list(records)
            swapped[place - 1], swapped[place] = records[place], records[place - 1]
            self.assertEqual(judged(key=swapped, weight=self.WEIGHT), [0, 6, place])

    def test_no_two_alike_in_all_three(self):
        for second in ((1, 0, 1, 5, 0, 0), (2, 0, 1, 5, 0, 0), (3, 1, 2, 5, 0, 0)):
            self.assertEqual(judged(key=[(1, 0, 1, 5, 0, 0), second], weight=self.WEIGHT), [0, 6, 1], second)

    def test_weights_lie_in_weight(self):
        self.assertEqual(judged(key=[(1, 1, 4, 5, 0, 0), (1, 5, 0, 6, 0, 0)], weight=self.WEIGHT), GOOD)
        self.assertEqual(judged(key=[(1, 0, 0, 5, 0, 0)]), GOOD)
        self.at_both(1, 2, 4, 5, 0, 0)
        self.at_both(1, 5, 1, 5, 0, 0)
        self.at_both(1, 6, 0, 5, 0, 0)

    def test_count_to_4(self):
        self.at_both(1, 0, 5, 5, 0, 0)
        self.at_both(1, 0, 4294967295, 5, 0, 0)


class RuleOfWeights(unittest.TestCase):
    def test_weights_that_may_stand(self):
        right = [(0, 0, 0), (0, 0, 2), (0, 2, 2), (2, 2, 2), (65535, 65535, 65535)]
        self.assertEqual(judged(weight=right), GOOD)

    def test_weights_that_may_not(self):
        for record in ((1, 2, 2), (2, 1, 2), (2, 2, 1), (0, 1, 2), (0, 2, 1), (0, 0, 1),
                       (2, 0, 0), (2, 0, 2), (2, 2, 0), (0, 2, 0)):
            self.assertEqual(judged(weight=[record, (0, 0, 0)]), [0, 7, 0], record)
            self.assertEqual(judged(weight=[(0, 0, 0), (2, 2, 2), record, record]), [0, 7, 2], record)


class SeveralRules(unittest.TestCase):
    BROKEN = [
        ("pool", [0x41, 0xD800], 1),
        ("cls", [(1, 1, 1), (2, 2, 0)], 2),
        ("dec", [(9, 1, 0, 1), (9, 1, 0, 1)], 3),
        ("dec", [(9, 1, 0, 1), (0x41, 1, 0, 1)], 4),
        ("pair", [(0x41, 0x41, 0x42)], 5),
        ("key", [(0, 0, 0, 0, 0, 0)], 6),
        ("weight", [(1, 1, 1)], 7),
    ]

    def test_the_first_rule_counts(self):
        for first in range(len(self.BROKEN)):
            for second in range(first + 1, len(self.BROKEN)):
                rows = dict(pool=[0x41])
                rows[self.BROKEN[second][0]] = self.BROKEN[second][1]
                rows[self.BROKEN[first][0]] = self.BROKEN[first][1]
                self.assertEqual(judged(**rows)[1], self.BROKEN[first][2], (first, second))

    def test_the_first_rule_counts_before_an_earlier_record(self):
        # Rule 4 is broken by record 0, rule 3 by record 1.
        self.assertEqual(judged(pool=[5], dec=[(5, 0, 0, 1), (6, 0, 0, 5)]), [0, 3, 1])
        self.assertEqual(judged(pool=[0x41, 0x41, 0xAC00], cls=[(1, 1, 0)]), [0, 1, 2])

    def test_then_its_first_record(self):
        self.assertEqual(judged(weight=[(0, 0, 0), (1, 1, 1), (2, 0, 2), (1, 1, 1)]), [0, 7, 1])
        # Of rule 4, record 0 is out of order, and record 1 holds one that has a record.
        cls = [(1, 1, 2), (2, 2, 1)]
        self.assertEqual(judged(pool=[1, 2, 5], dec=[(5, 0, 0, 2), (6, 0, 2, 1)], cls=cls), [0, 4, 0])


class WhatStaysAndWhatGoes(unittest.TestCase):
    ASKED = form(1, [S, ABOVE, BELOW, C_CEDILLA, LIGATURE])
    TOLD = [0, S_BOTH, C_CEDILLA, LIGATURE]

    def test_broken_tables_are_not_taken(self):
        broken = ((1, dict(pool=[0xD800])), (2, dict(cls=[(1, 1, 0)])), (3, dict(dec=[(1, 0, 0, 1)])),
                  (4, dict(pool=[1], dec=[(1, 0, 0, 1)])), (5, dict(pair=[(1, 1, 1)])),
                  (6, dict(key=[(0, 0, 0, 0, 0, 0)])), (7, dict(weight=[(1, 1, 1)])))
        for rule, rows in broken:
            told = ask(small_tables(), tables(**rows), self.ASKED)
            self.assertEqual(told, [GOOD, [0, rule, 0], self.TOLD])

    def test_refused_tables_are_not_taken(self):
        self.assertEqual(ask(small_tables(), tables(pool=[-1]), self.ASKED), [GOOD, [-1], self.TOLD])

    def test_taken_tables_replace_those_before(self):
        told = ask(small_tables(), tables(), self.ASKED)
        self.assertEqual(told[-1], [0, S, ABOVE, BELOW, C_CEDILLA, LIGATURE])
        told = ask(small_tables(), tables(pool=[A, RING], dec=[(C_CEDILLA, 0, 0, 2)]), self.ASKED)
        self.assertEqual(told[-1], [0, S, ABOVE, BELOW, A, RING, LIGATURE])

    def test_no_tables_at_the_beginning(self):
        self.assertEqual(ask_one(self.ASKED), [0, S, ABOVE, BELOW, C_CEDILLA, LIGATURE])
        self.assertEqual(ask_one(form(0, [S_BELOW, CEDILLA, LONG_S])), [0, S_BELOW, CEDILLA, LONG_S])


if __name__ == "__main__":
    unittest.main()
