"""What is refused, with which number, in which order, and that a refusal leaves the object as it was."""

import unittest

from formorder.desk import Desk, answer_call
from formorder.reader import Reader
from helper import (
    ABOVE, BELOW, ROWS, S, S_BOTH, ask, ask_one, compare, end, find, form, is_form, join, key, open_pieces, order,
    put, same, small_tables, tables,
)

WRONG_FORMS = (-1, 4, 5, 256, 4294967296, -1000000000000000000, 1000000000000000000)
CODE_POINTS = (0, 0x41, 0xD7FF, 0xE000, 0x10FFFF)
NO_CODE_POINTS = (-1, -0x41, 0xD800, 0xDBFF, 0xDFFF, 0x110000, 4294967296, -10 ** 18, 10 ** 18)
SIZES = dict(pool=1, dec=4, pair=3, cls=3, key=6, weight=3)


def full_rows(records=128):
    """Right tables of 128 records each; of another number, as many of each as can be right."""
    two_rows = [(0x3000 + k, 0, k, 2) for k in range(127)]
    two_pairs = [(0x2000 + k, 0x2001 + k, 0x3000 + k) for k in range(127)]
    return dict(
        pool=[0x2000 + k for k in range(records)],
        dec=two_rows + [(0x307F + k, 0, 0, 3) for k in range(records - 127)],
        pair=two_pairs + [(0x3000 + k, 0x2002, 0x307F) for k in range(records - 127)],
        cls=[(0x4000 + 2 * k, 0x4000 + 2 * k, 1 + k) for k in range(records)],
        key=[(1, 124, 4, 0x5000 + k, 0, 0) for k in range(records)],
        weight=[(2, 2, 2)] * records,
    )


class TablesLimits(unittest.TestCase):
    def test_128_records(self):
        self.assertEqual(ask_one(tables(**full_rows())), [0, 0, 0])

    def test_129_records(self):
        for row in ROWS:
            rows = full_rows()
            rows[row] = full_rows(129)[row]
            self.assertEqual(ask_one(tables(**rows)), [-1], row)

    def test_as_many_as_can_be_handed_in(self):
        for row in ROWS:
            self.assertEqual(ask_one(tables(**{row: [0] * 1998})), [-1], row)

    def test_whole_records_alone(self):
        for row in ROWS:
            for length in range(1, 13):
                refused = ask_one(tables(**{row: [0] * length})) == [-1]
                self.assertEqual(refused, length % SIZES[row] != 0, (row, length))

    def test_ends_of_a_number(self):
        for row in ROWS:
            for at in range(SIZES[row]):
                for number in (-1, 4294967296, -10 ** 18, 10 ** 18):
                    record = [0] * SIZES[row]
                    record[at] = number
                    self.assertEqual(ask_one(tables(**{row: record})), [-1], (row, at, number))
                    self.assertEqual(ask_one(tables(**{row: [0] * SIZES[row] + record})), [-1], (row, at, number))

    def test_4294967295_is_told_by_a_rule(self):
        for rule, row in ((1, "pool"), (2, "cls"), (3, "dec"), (5, "pair"), (6, "key")):
            told = ask_one(tables(**{row: [4294967295] * SIZES[row]}))
            self.assertEqual(told, [0, rule, 0], row)

    def test_ends_of_a_weight(self):
        self.assertEqual(ask_one(tables(weight=[65535, 65535, 65535])), [0, 0, 0])
        for at in range(3):
            for number in (65536, 4294967295):
                weight = [2, 2, 2]
                weight[at] = number
                self.assertEqual(ask_one(tables(weight=weight)), [-1])

    def test_refused_before_a_broken_rule(self):
        self.assertEqual(ask_one(tables(pool=[0xD800], weight=[2, 2])), [-1])
        self.assertEqual(ask_one(tables(pool=[0xD800], weight=[2, 2, 65536])), [-1])
        self.assertEqual(ask_one(tables(pool=[0xD800], key=[0] * 129 * 6)), [-1])


class FormLimits(unittest.TestCase):
    def test_forms_0_to_3(self):
        for number in (0, 1, 2, 3):
            self.assertEqual(ask_one(form(number, [])), [0])
            self.assertEqual(ask_one(is_form(number, [])), [0, 1])
            self.assertEqual(ask_one(join(number, [], [])), [0])
            self.assertEqual(ask_one(open_pieces(number)), [0])

    def test_other_forms(self):
        for number in WRONG_FORMS:
            calls = [form(number, []), is_form(number, []), same(number, [], []), join(number, [], []),
                     open_pieces(number)]
            self.assertEqual(ask(*calls), [[-1]] * 5, number)

    def test_same_takes_0_and_2_alone(self):
        told = [ask_one(same(number, [0x41], [0x41])) for number in (0, 1, 2, 3)]
        self.assertEqual(told, [[0, 1], [-1], [0, 1], [-1]])


class LevelLimits(unittest.TestCase):
    def test_levels_1_to_3(self):
        for level in (1, 2, 3):
            calls = [key(level, 0, []), compare(level, 0, [], []), order(level, 0, [], []), find(level, [], [0x41])]
            self.assertEqual(ask(*calls), [[0] + [1] * (level - 1), [0, 2], [0], [0, 0]])

    def test_other_levels(self):
        for level in (0, -1, 4, 256, 4294967297, -10 ** 18, 10 ** 18):
            calls = [key(level, 0, []), compare(level, 0, [], []), order(level, 0, [], []), find(level, [], [0x41])]
            self.assertEqual(ask(*calls), [[-1]] * 4, level)

    def test_back_0_and_1(self):
        for back in (0, 1):
            calls = [key(1, back, []), compare(1, back, [], []), order(1, back, [], [])]
            self.assertEqual(ask(*calls), [[0], [0, 2], [0]])
        for back in (-1, 2, 4294967296, -10 ** 18, 10 ** 18):
            calls = [key(1, back, []), compare(1, back, [], []), order(1, back, [], [])]
            self.assertEqual(ask(*calls), [[-1]] * 3, back)


class LengthsLimits(unittest.TestCase):
    def test_as_many_as_they_come_to(self):
        text = [0x41] * 5
        for lengths in ([5], [2, 3], [0, 5, 0], [1] * 5):
            self.assertEqual(ask_one(order(1, 0, lengths, text))[0], 0)
        for lengths in ([], [4], [6], [2, 2], [3, 3], [1] * 4, [1] * 6, [10 ** 18], [0]):
            self.assertEqual(ask_one(order(1, 0, lengths, text)), [-1], lengths)
        for lengths in ([1], [10 ** 18], [0, 0, 1]):
            self.assertEqual(ask_one(order(1, 0, lengths, [])), [-1], lengths)

    def test_from_0_on(self):
        for lengths in ([-1, 6], [6, -1], [5, -10 ** 18, 10 ** 18], [-5, 10]):
            self.assertEqual(ask_one(order(1, 0, lengths, [0x41] * 5)), [-1], lengths)
        self.assertEqual(ask_one(order(1, 0, [-1, 1], [])), [-1])

    def test_up_to_100_lengths(self):
        self.assertEqual(ask_one(order(1, 0, [1] * 100, [0x41] * 100)), [0] + list(range(100)))
        self.assertEqual(ask_one(order(1, 0, [0] * 99 + [100], [0x41] * 100)), [0] + list(range(100)))
        for lengths in ([0] * 101, [0] * 400, [0] * 100 + [5]):
            self.assertEqual(ask_one(order(1, 0, lengths, [0x41] * sum(lengths))), [-1])

    def test_before_a_code_point(self):
        for lengths in ([], [2], [-1, 2], [0] * 100 + [1]):
            self.assertEqual(ask_one(order(1, 0, lengths, [0xD800])), [-1])
        self.assertEqual(ask_one(order(1, 0, [0, 1], [0xD800])), [-3])


def calls_with(text):
    """Each call that has texts of up to 100, with this text in each of their places."""
    calls = []
    for number in (0, 2):
        calls += [form(number, text), is_form(number, text)]
        calls += [same(number, text, []), same(number, [0x41], text)]
        calls += [join(number, text, []), join(number, [0x41], text)]
        calls += [open_pieces(number) + put(text)]
    for level in (1, 3):
        calls += [key(level, 1, text), compare(level, 0, text, []), compare(level, 1, [0x41], text)]
        calls += [order(level, 0, [len(text)], text), order(level, 0, [0, 1, len(text) - 1], text)]
    return calls


def finds_with(text):
    return [find(level, *texts) for level in (1, 2, 3) for texts in ((text, [0x41]), ([0x41], text))]


class TextLimits(unittest.TestCase):
    def test_100_numbers(self):
        text = [0x41] * 100
        for call in calls_with(text):
            self.assertEqual(ask_one(call)[0], 0)
        self.assertEqual(ask_one(form(1, text)), [0] + text)
        self.assertEqual(ask_one(join(1, text, text)), [0] + text + text)

    def test_101_numbers(self):
        for length in (101, 400):
            for call in calls_with([0x41] * length):
                self.assertEqual(ask_one(call), [-1])

    def test_code_points(self):
        for code in CODE_POINTS:
            for call in calls_with([code]) + calls_with([0x41, code]) + finds_with([code]) + finds_with([0x41, code]):
                self.assertEqual(ask_one(call)[0], 0, hex(code))
            self.assertEqual(ask_one(form(3, [code])), [0, code])

    def test_no_code_points(self):
        for number in NO_CODE_POINTS:
            calls = calls_with([number]) + calls_with([0x41] * 99 + [number]) + calls_with([number, 0x41])
            calls += finds_with([number]) + finds_with([0x41] * 29 + [number]) + finds_with([number, 0x41])
            for call in calls:
                self.assertEqual(ask_one(call), [-3], number)

    def test_form_counts_before_a_code_point(self):
        wrong = [0xD800]
        for call in (form(4, wrong), is_form(4, wrong), same(1, wrong, wrong), same(3, [], wrong),
                     join(-1, wrong, []), join(4, [], wrong)):
            self.assertEqual(ask_one(call), [-1])

    def test_level_and_back_count_before_a_code_point(self):
        wrong = [0xD800]
        for call in (key(0, 0, wrong), key(1, 2, wrong), compare(4, 0, wrong, []), compare(1, -1, [], wrong),
                     order(0, 0, [1], wrong), order(1, 2, [1], wrong), find(0, wrong, wrong), find(4, [], wrong)):
            self.assertEqual(ask_one(call), [-1])

    def test_length_counts_before_a_code_point(self):
        for call in calls_with([0xD800] * 101):
            self.assertEqual(ask_one(call), [-1])
        long = [0x41] * 101
        for call in (same(0, [0xD800], long), same(0, long, [0xD800]), join(0, [0xD800], long),
                     join(0, long, [0xD800]), compare(1, 0, [0xD800], long), compare(1, 0, long, [0xD800])):
            self.assertEqual(ask_one(call), [-1])
        for call in finds_with([0xD800] * 31) + [find(1, [0xD800], [0x41] * 31), find(1, [0x41] * 31, [0xD800]),
                                                 find(1, [0xD800], [])]:
            self.assertEqual(ask_one(call), [-1])

    def test_a_refused_call_takes_up_its_numbers(self):
        told = ask(form(4, [2, 3]), same(1, [6], [6, 6]), join(0, [0xD800], [1] * 101), open_pieces(9),
                   tables(pool=[-1], key=[2]), form(0, [0xD800, 7]), is_form(0, [0x41]))
        self.assertEqual(told, [[-1], [-1], [-1], [-1], [-1], [-3], [0, 1]])
        told = ask(put([7, 8]), end(), key(0, 9, [9, 9]), compare(1, 2, [10], [10, 0]), order(1, 0, [11, 1], [11]),
                   find(0, [12], [12, 1]), find(1, [0xD800, 12], [12]), is_form(0, [0x41]))
        self.assertEqual(told, [[-2], [-2], [-1], [-1], [-1], [-1], [-3], [0, 1]])


REFUSED = [
    tables(pool=[-1]), tables(weight=[0, 0, 65536]), tables(dec=[0] * 3),
    form(4, []), form(0, [0xD800]), is_form(-1, []), is_form(1, [0x110000]),
    same(1, [], []), same(0, [], [-1]), join(4, [], []), join(3, [0xDFFF], []), open_pieces(4), open_pieces(-1),
    put([S] * 101), put([-1]), key(0, 0, []), key(1, 2, []), key(1, 0, [-1]), compare(0, 0, [], []),
    compare(1, 0, [], [-1]), order(1, 0, [1], []), order(1, 0, [1], [-1]), find(1, [], []), find(1, [-1], [S]),
    find(1, [S], [S, ABOVE, ABOVE] * 11),
]
BROKEN = [tables(pool=[0xD800]), tables(cls=[0, 0, 0]), tables(weight=[1, 1, 1])]


def answer_on(desk, call):
    return answer_call(desk, Reader(call).take_call())


class WhatARefusalLeaves(unittest.TestCase):
    def opened(self):
        desk = Desk()
        answer_on(desk, small_tables())
        answer_on(desk, open_pieces(3))
        return desk

    def test_tables_and_pieces_stay(self):
        for call in REFUSED + BROKEN:
            desk = self.opened()
            before = (desk.tables, desk.pieces)
            told = answer_on(desk, call)
            self.assertTrue(told in ([-1], [-3]) or told[1] > 0, call)
            self.assertTrue(desk.tables is before[0] and desk.pieces is before[1], call)
            self.assertEqual((desk.pieces.form, desk.pieces.come), (3, []))

    def test_no_pieces_begin_by_a_refusal(self):
        for call in REFUSED + BROKEN:
            desk = Desk()
            answer_on(desk, call)
            self.assertIsNone(desk.pieces)

    def test_answers_stay(self):
        for call in REFUSED + BROKEN:
            told = ask_one(small_tables(), open_pieces(0), call, form(1, [S, ABOVE, BELOW]))
            self.assertEqual(told, [0, S_BOTH])


class Open(unittest.TestCase):
    """Promise 6, as far as it is seen on the object: test_pieces.py holds what put and end show of it."""

    def test_nothing_more_is_answered(self):
        self.assertEqual(ask(open_pieces(0), open_pieces(1), open_pieces(2), open_pieces(3)), [[0]] * 4)

    def test_pieces_are_under_way(self):
        desk = Desk()
        self.assertIsNone(desk.pieces)
        for number in (0, 1, 2, 3):
            self.assertEqual(answer_on(desk, open_pieces(number)), [0])
            self.assertEqual((desk.pieces.form, desk.pieces.come), (number, []))

    def test_those_before_are_forgotten(self):
        desk = Desk()
        answer_on(desk, open_pieces(2))
        before = desk.pieces
        before.come.append(0x41)
        answer_on(desk, open_pieces(2))
        self.assertFalse(desk.pieces is before)
        self.assertEqual(desk.pieces.come, [])

    def test_tables_taken_forget_pieces(self):
        for call in (tables(), small_tables()):
            desk = Desk()
            answer_on(desk, open_pieces(1))
            self.assertEqual(answer_on(desk, call), [0, 0, 0])
            self.assertIsNone(desk.pieces)

    def test_texts_leave_pieces_and_tables(self):
        desk = Desk()
        answer_on(desk, small_tables())
        answer_on(desk, open_pieces(1))
        before = (desk.tables, desk.pieces)
        for call in (form(3, [S]), is_form(0, [S]), same(2, [S], [S]), join(1, [S], [ABOVE])):
            answer_on(desk, call)
            self.assertTrue(desk.tables is before[0] and desk.pieces is before[1])
            self.assertEqual((desk.pieces.form, desk.pieces.come), (1, []))

    def test_open_leaves_tables(self):
        self.assertEqual(ask_one(small_tables(), open_pieces(1), form(1, [S, ABOVE, BELOW])), [0, S_BOTH])


if __name__ == "__main__":
    unittest.main()
