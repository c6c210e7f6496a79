"""Promises 6 to 8: open, put and end."""

import unittest

from helper import (
    A, ABOVE, ABOVE_TOO, A_RING, BELOW, CEDILLA, LONG_S, LONG_S_ABOVE, RING, S, S_ABOVE, S_BOTH, ask, ask_one,
    compare, end, find, form, is_form, join, key, open_pieces, order, put, same, small_tables, tables,
)

B, LEAD, VOWEL, TAIL = 0x42, 0x1100, 0x1161, 0x11A8
# 0x61 and 0x62 go together; 0x3001 begins with 0x62, which goes into others.
LETTER_PAIRS = tables(
    pool=[0x61, 0x62, 0x62, 0x63], dec=[(0x3000, 0, 0, 2), (0x3001, 0, 2, 2)], pair=[(0x61, 0x62, 0x3000)])


def put_all(number, pieces, tables_call=None):
    """What is answered to each of these pieces and to end."""
    calls = [tables_call or small_tables(), open_pieces(number)] + [put(piece) for piece in pieces] + [end()]
    return ask(*calls)[2:]


def is_safe(tables_call, number, code):
    """A letter ahead is settled just if what comes behind it is safe."""
    return put_all(number, [[0x5A, code]], tables_call)[0] == [0, 0x5A]


class Settled(unittest.TestCase):
    def test_all_before_the_last_safe_one(self):
        self.assertEqual(put_all(0, [[A], [B], [0x43]]), [[0], [0, A], [0, B], [0, 0x43]])
        self.assertEqual(put_all(1, [[A, B, 0x43], [0x44]]), [[0, A, B], [0, 0x43], [0, 0x44]])

    def test_what_is_not_safe_settles_nothing(self):
        self.assertEqual(put_all(0, [[S], [ABOVE], [BELOW], [A]]), [[0], [0], [0], [0, S, BELOW, ABOVE], [0, A]])
        self.assertEqual(put_all(1, [[S], [ABOVE], [BELOW], [A]]), [[0], [0], [0], [0, S_BOTH], [0, A]])
        self.assertEqual(put_all(1, [[S, ABOVE, A, RING], [S]]), [[0, S_ABOVE], [0, A_RING], [0, S]])

    def test_none_if_none_is_safe(self):
        self.assertEqual(put_all(0, [[ABOVE, BELOW], [CEDILLA]]), [[0], [0], [0, CEDILLA, BELOW, ABOVE]])
        self.assertEqual(put_all(0, [[ABOVE, BELOW], [A]]), [[0], [0, BELOW, ABOVE], [0, A]])
        self.assertEqual(put_all(1, [[VOWEL, TAIL]]), [[0], [0, VOWEL, TAIL]])

    def test_the_first_one_safe_has_nothing_before_it(self):
        self.assertEqual(put_all(0, [[A]]), [[0], [0, A]])

    def test_empty_pieces(self):
        self.assertEqual(put_all(1, []), [[0]])
        self.assertEqual(put_all(1, [[]]), [[0], [0]])
        self.assertEqual(put_all(1, [[], [A], [], [RING], [], [B], []]),
                         [[0], [0], [0], [0], [0], [0, A_RING], [0], [0, B]])

    def test_the_form_that_was_opened(self):
        text = [LONG_S, ABOVE, A]
        for number, told in ((0, [LONG_S, ABOVE]), (1, [LONG_S_ABOVE]), (2, [S, ABOVE]), (3, [S_ABOVE])):
            self.assertEqual(put_all(number, [text]), [[0] + told, [0, A]])
            self.assertEqual(put_all(number, [[code] for code in text]), [[0], [0], [0] + told, [0, A]])

    def test_syllables_of_pieces(self):
        pieces = [[LEAD], [VOWEL], [TAIL], [LEAD]]
        self.assertEqual(put_all(1, pieces), [[0], [0], [0], [0, 0xAC01], [0, LEAD]])
        self.assertEqual(put_all(0, pieces), [[0], [0, LEAD], [0, VOWEL], [0, TAIL], [0, LEAD]])
        self.assertEqual(put_all(1, [[0xAC00], [TAIL, 0xAC00]]), [[0], [0, 0xAC01], [0, 0xAC00]])
        self.assertEqual(put_all(2, [[0xAC01], [0xAC00]]), [[0], [0, LEAD, VOWEL, TAIL], [0, LEAD, VOWEL]])

    def test_however_it_is_cut(self):
        text = [ABOVE, S, ABOVE, CEDILLA, BELOW, LEAD, VOWEL, TAIL, LONG_S_ABOVE, BELOW, A, RING, 0xAC00, TAIL, B]
        for number in range(4):
            whole = ask_one(small_tables(), form(number, text))
            for first in range(len(text) + 1):
                for second in range(first, len(text) + 1):
                    told = put_all(number, [text[:first], text[first:second], text[second:]])
                    self.assertEqual([0] + [code for answer in told for code in answer[1:]], whole)


class Safe(unittest.TestCase):
    def safe_in(self, tables_call, code):
        return [number for number in range(4) if is_safe(tables_call, number, code)]

    def test_letters_and_marks(self):
        self.assertEqual(self.safe_in(small_tables(), A), [0, 1, 2, 3])
        self.assertEqual(self.safe_in(small_tables(), S_BOTH), [0, 1, 2, 3])
        self.assertEqual(self.safe_in(small_tables(), ABOVE), [])
        self.assertEqual(self.safe_in(small_tables(), ABOVE_TOO), [])
        self.assertEqual(self.safe_in(tables(), ABOVE), [0, 1, 2, 3])

    def test_vowels_and_tails(self):
        for low, high in ((0x1161, 0x1175), (0x11A8, 0x11C2)):
            for code in (low, high):
                self.assertEqual(self.safe_in(tables(), code), [0, 2], hex(code))
            for code in (low - 1, high + 1):
                self.assertEqual(self.safe_in(tables(), code), [0, 1, 2, 3], hex(code))

    def test_leads_and_syllables(self):
        for code in (0x1100, 0x1112, 0xAC00, 0xAC01, 0xD7A3):
            self.assertEqual(self.safe_in(tables(), code), [0, 1, 2, 3], hex(code))

    def test_what_goes_into_another(self):
        self.assertEqual(self.safe_in(LETTER_PAIRS, 0x61), [0, 1, 2, 3])
        self.assertEqual(self.safe_in(LETTER_PAIRS, 0x62), [0, 2])
        self.assertEqual(self.safe_in(LETTER_PAIRS, 0x63), [0, 1, 2, 3])
        self.assertEqual(self.safe_in(LETTER_PAIRS, 0x3000), [0, 1, 2, 3])
        self.assertEqual(self.safe_in(LETTER_PAIRS, 0x3001), [0, 2])
        told = put_all(1, [[0x61], [0x3001], [0x61]], LETTER_PAIRS)
        self.assertEqual(told, [[0], [0], [0, 0x3000, 0x63], [0, 0x61]])

    def test_a_lead_that_goes_into_another(self):
        rows = tables(pool=[0x61, LEAD], dec=[(0x3000, 0, 0, 2)], pair=[(0x61, LEAD, 0x3000)])
        for code in (LEAD, 0xAC00, 0xAC01):
            self.assertEqual(self.safe_in(rows, code), [0, 2])
        self.assertEqual(self.safe_in(rows, 0x1101), [0, 1, 2, 3])
        self.assertEqual(put_all(1, [[0x61], [0xAC00], [0x61]], rows), [[0], [0], [0, 0x3000, VOWEL], [0, 0x61]])

    def test_only_the_first_it_comes_apart_into_counts(self):
        # 0x3001 goes into another itself, but what it begins with doesn't.
        rows = tables(
            pool=[0x61, 0x62, 0x63], dec=[(0x3001, 0, 1, 2), (0x3002, 0, 0, 3)], pair=[(0x61, 0x3001, 0x3002)])
        self.assertEqual(self.safe_in(rows, 0x3001), [0, 1, 2, 3])
        # 0x3000 has class 0 and ends with a letter, but begins with a mark.
        rows = tables(pool=[0x300, 0x61], dec=[(0x3000, 0, 0, 2)], cls=[(0x300, 0x300, 9)])
        self.assertEqual(self.safe_in(rows, 0x3000), [])
        # 0x3000 begins with a letter and goes on with one that goes into others.
        rows = tables(pool=[0x61, 0x62], dec=[(0x3000, 0, 0, 2)], pair=[(0x61, 0x62, 0x3000)])
        self.assertEqual(self.safe_in(rows, 0x3000), [0, 1, 2, 3])

    def test_loosely_in_forms_2_and_3(self):
        # 0x3000 comes apart loosely into a mark, 0x3001 into a vowel.
        rows = tables(pool=[0x300, VOWEL], dec=[(0x3000, 1, 0, 1), (0x3001, 1, 1, 1)], cls=[(0x300, 0x300, 9)])
        self.assertEqual(self.safe_in(rows, 0x3000), [0, 1])
        self.assertEqual(self.safe_in(rows, 0x3001), [0, 1, 2])

    def test_what_goes_into_another_by_its_loose_row(self):
        # 0x62 goes into 0x61, but comes apart loosely into 0x63; 0x64 comes apart loosely into 0x65, which goes.
        rows = tables(
            pool=[0x61, 0x62, 0x61, 0x63, 0x65, 0x61, 0x65],
            dec=[(0x62, 1, 3, 1), (0x64, 1, 4, 1), (0x3000, 0, 0, 2), (0x3000, 1, 2, 2), (0x3001, 0, 5, 2)],
            pair=[(0x61, 0x62, 0x3000), (0x61, 0x65, 0x3001)])
        self.assertEqual(ask_one(rows), [0, 0, 0])
        self.assertEqual(self.safe_in(rows, 0x62), [0, 2, 3])
        self.assertEqual(self.safe_in(rows, 0x64), [0, 1, 2])
        self.assertEqual(put_all(3, [[0x61], [0x64], [0x62]], rows), [[0], [0], [0, 0x3001], [0, 0x63]])


class TooMuch(unittest.TestCase):
    def told(self, *pieces, number=1):
        return put_all(number, pieces, tables(cls=[(0x300, 0x300, 9)]))

    def test_16_from_the_beginning(self):
        self.assertEqual(self.told([VOWEL] * 16), [[0], [0] + [VOWEL] * 16])
        self.assertEqual(self.told([VOWEL] * 17), [[-4], [-4]])
        self.assertEqual(self.told([0x300] * 16, number=0), [[0], [0] + [0x300] * 16])
        self.assertEqual(self.told([0x300] * 17, number=0), [[-4], [-4]])

    def test_16_from_a_safe_one_on(self):
        self.assertEqual(self.told([A] + [VOWEL] * 15), [[0], [0, A] + [VOWEL] * 15])
        self.assertEqual(self.told([A] + [VOWEL] * 16), [[-4], [-4]])
        self.assertEqual(self.told([A, B] + [VOWEL] * 15), [[0, A], [0, B] + [VOWEL] * 15])
        self.assertEqual(self.told([A, B] + [VOWEL] * 16), [[-4], [-4]])

    def test_over_pieces(self):
        self.assertEqual(self.told([A], [VOWEL] * 8, [VOWEL] * 7, [B]), [[0], [0], [0], [0, A] + [VOWEL] * 15, [0, B]])
        self.assertEqual(self.told([A], [VOWEL] * 8, [VOWEL] * 7, [VOWEL], [B]), [[0], [0], [0], [-4], [-4], [-4]])
        self.assertEqual(self.told(*[[VOWEL]] * 17), [[0]] * 16 + [[-4], [-4]])

    def test_within_a_piece(self):
        self.assertEqual(self.told([A] + [VOWEL] * 16 + [B]), [[-4], [-4]])
        self.assertEqual(self.told([VOWEL] * 17 + [A, B]), [[-4], [-4]])
        self.assertEqual(self.told([A, B], [VOWEL] * 16 + [B] * 10), [[0, A], [-4], [-4]])

    def test_a_safe_one_in_time_begins_anew(self):
        piece = [A] + [VOWEL] * 15
        self.assertEqual(self.told(piece * 6), [[0] + piece * 5, [0] + piece])
        self.assertEqual(self.told([VOWEL] * 16 + [A] + [VOWEL] * 15), [[0] + [VOWEL] * 16, [0, A] + [VOWEL] * 15])
        self.assertEqual(self.told([VOWEL] * 16, [A], [VOWEL] * 16), [[0], [0] + [VOWEL] * 16, [-4], [-4]])

    def test_counted_as_they_came_not_as_they_come_apart(self):
        # 0x310 is a mark that comes apart into four.
        rows = tables(pool=[0x300] * 4, dec=[(0x310, 0, 0, 4)], cls=[(0x300, 0x300, 9), (0x310, 0x310, 9)])
        self.assertEqual(put_all(0, [[0x310] * 16], rows), [[0], [0] + [0x300] * 64])
        self.assertEqual(put_all(0, [[0x310] * 17], rows), [[-4], [-4]])

    def test_counted_as_they_came_not_as_they_go_together(self):
        text = [S, BELOW, ABOVE] + [ABOVE] * 13
        self.assertEqual(put_all(1, [text]), [[0], [0, S_BOTH] + [ABOVE] * 13])
        self.assertEqual(put_all(1, [text + [ABOVE]]), [[-4], [-4]])

    def test_what_is_safe_hangs_on_the_form(self):
        for number in (0, 2):
            self.assertEqual(self.told([VOWEL] * 17, number=number), [[0] + [VOWEL] * 16, [0, VOWEL]])
        for number in (1, 3):
            self.assertEqual(self.told([VOWEL] * 17, number=number), [[-4], [-4]])


TOO_MUCH = [open_pieces(1), put([A, B]), put([VOWEL] * 16)]


class BehindTooMuch(unittest.TestCase):
    def behind(self, *calls):
        told = ask(*TOO_MUCH, *calls)
        self.assertEqual(told[:3], [[0], [0, A], [-4]])
        return told[3:]

    def test_put_and_end_answer_4(self):
        calls = [put([]), put([A]), put([A, B]), end(), end(), put([VOWEL]), put([A] * 100), end()]
        self.assertEqual(self.behind(*calls), [[-4]] * 8)

    def test_before_wrong_code_points_and_behind_a_length(self):
        self.assertEqual(self.behind(put([-1]), put([A, 0xD800])), [[-4], [-4]])
        self.assertEqual(self.behind(put([A] * 101), put([-1] * 101), end()), [[-1], [-1], [-4]])

    def test_before_200(self):
        letters = [open_pieces(1), put([A] * 100), put([A] * 80), put([VOWEL] * 16), put([A] * 20), put([A] * 100)]
        self.assertEqual([answer[0] for answer in ask(*letters)], [0, 0, 0, -4, -4, -4])

    def test_a_new_open(self):
        self.assertEqual(self.behind(open_pieces(0), put([VOWEL, A]), end()), [[0], [0, VOWEL], [0, A]])
        self.assertEqual(self.behind(open_pieces(1), end(), end()), [[0], [0], [-5]])

    def test_an_open_that_is_refused(self):
        self.assertEqual(self.behind(open_pieces(4), put([A]), end()), [[-1], [-4], [-4]])

    def test_tables(self):
        self.assertEqual(self.behind(tables(), put([A]), end()), [[0, 0, 0], [-2], [-2]])
        self.assertEqual(self.behind(tables(pool=[0xD800]), put([A]), end()), [[0, 1, 0], [-4], [-4]])
        self.assertEqual(self.behind(tables(pool=[-1]), put([A]), end()), [[-1], [-4], [-4]])

    def test_other_calls_go_on(self):
        self.assertEqual(self.behind(form(1, [LEAD, VOWEL]), end()), [[0, 0xAC00], [-4]])


class InAll(unittest.TestCase):
    def test_200_and_201(self):
        told = ask(open_pieces(0), put([A] * 100), put([A] * 100), put([A]), put([]), end())
        self.assertEqual(told, [[0], [0] + [A] * 99, [0] + [A] * 100, [-6], [0], [0, A]])
        told = ask(open_pieces(0), put([A] * 100), put([A] * 99), put([B, B]), put([B]), put([B]), end())
        self.assertEqual(told, [[0], [0] + [A] * 99, [0] + [A] * 99, [-6], [0, A], [-6], [0, B]])

    def test_one_by_one(self):
        calls = [open_pieces(1), put([A] * 100), put([A] * 60)] + [put([A])] * 40 + [put([B])] * 3
        told = ask(*calls, end())
        self.assertEqual(told[3:], [[0, A]] * 40 + [[-6]] * 3 + [[0, A]])

    def test_looked_at_before_what_is_newly_too_much(self):
        calls = [open_pieces(1), put([A] * 100), put([A] * 84)]
        self.assertEqual(ask(*calls, put([VOWEL] * 16), end())[3:], [[-4], [-4]])
        told = ask(*calls, put([VOWEL] * 17), put([B]), put([VOWEL] * 16), end())
        self.assertEqual(told[3:], [[-6], [0, A], [-6], [0, B]])
        self.assertEqual(ask(*calls, put([VOWEL] * 15), put([VOWEL] * 2), end())[3:],
                         [[0], [-6], [0, A] + [VOWEL] * 15])

    def test_behind_wrong_code_points(self):
        calls = [open_pieces(1), put([A] * 100), put([A] * 100)]
        self.assertEqual(ask(*calls, put([-1]), put([A, 0xDFFF]), put([A]), end())[3:], [[-3], [-3], [-6], [0, A]])

    def test_counted_as_they_came(self):
        calls = [small_tables(), open_pieces(0), put([S_BOTH] * 100), put([S_BOTH] * 100), put([S_BOTH]), end()]
        whole = [S, BELOW, ABOVE]
        self.assertEqual(ask(*calls)[2:], [[0] + whole * 99, [0] + whole * 100, [-6], [0] + whole])

    def test_a_new_open_counts_anew(self):
        calls = [open_pieces(0), put([A] * 100), put([A] * 100), open_pieces(0), put([B] * 100), put([B] * 100)]
        self.assertEqual(ask(*calls)[4:], [[0] + [B] * 99, [0] + [B] * 100])


class BehindEnd(unittest.TestCase):
    def behind(self, *calls):
        told = ask(open_pieces(1), put([A, B]), end(), *calls)
        self.assertEqual(told[:3], [[0], [0, A], [0, B]])
        return told[3:]

    def test_put_and_end_answer_5(self):
        calls = [put([]), put([A]), end(), end(), put([VOWEL] * 17), put([A] * 100), put([A] * 100), put([A]), end()]
        self.assertEqual(self.behind(*calls), [[-5]] * 9)

    def test_before_wrong_code_points_and_behind_a_length(self):
        self.assertEqual(self.behind(put([-1]), put([A, 0xD800])), [[-5], [-5]])
        self.assertEqual(self.behind(put([A] * 101), put([-1] * 400), end()), [[-1], [-1], [-5]])

    def test_a_new_open(self):
        self.assertEqual(self.behind(open_pieces(1), put([LEAD]), put([VOWEL, A]), end(), end()),
                         [[0], [0], [0, 0xAC00], [0, A], [-5]])

    def test_an_open_that_is_refused(self):
        self.assertEqual(self.behind(open_pieces(-1), put([A]), end()), [[-1], [-5], [-5]])

    def test_tables(self):
        self.assertEqual(self.behind(tables(), put([A]), end()), [[0, 0, 0], [-2], [-2]])
        self.assertEqual(self.behind(tables(weight=[1, 1, 1]), put([A]), end()), [[0, 7, 0], [-5], [-5]])
        self.assertEqual(self.behind(tables(weight=[1]), put([A]), end()), [[-1], [-5], [-5]])

    def test_end_puts_out_nothing_twice(self):
        self.assertEqual(ask(open_pieces(0), end(), end(), put([A])), [[0], [0], [-5], [-5]])
        self.assertEqual(put_all(0, [[A, B], []]), [[0, A], [0], [0, B]])


class NoPieces(unittest.TestCase):
    def test_none_at_the_beginning(self):
        self.assertEqual(ask(put([A]), put([]), end()), [[-2]] * 3)

    def test_before_every_other_refusal(self):
        self.assertEqual(ask(put([A] * 101), put([-1]), put([-1] * 400), put([VOWEL] * 17)), [[-2]] * 4)

    def test_none_behind_an_open_that_is_refused(self):
        self.assertEqual(ask(open_pieces(4), put([A]), end()), [[-1], [-2], [-2]])

    def test_none_behind_tables_that_are_taken(self):
        self.assertEqual(ask(open_pieces(0), put([A, B]), tables(), put([A] * 101), put([-1]), end()),
                         [[0], [0, A], [0, 0, 0], [-2], [-2], [-2]])

    def test_refusals_of_a_piece(self):
        for number in (-1, 0xD800, 0xDFFF, 0x110000, 10 ** 18, -10 ** 18):
            self.assertEqual(ask_one(open_pieces(0), put([A, number])), [-3])
        self.assertEqual(ask_one(open_pieces(0), put([A] * 101)), [-1])
        self.assertEqual(ask_one(open_pieces(0), put([-1] * 101)), [-1])
        self.assertEqual(ask_one(open_pieces(1), put([VOWEL] * 17 + [-1])), [-3])


class WhatStays(unittest.TestCase):
    def test_refused_pieces_have_not_come(self):
        for wrong in ([B] * 101, [B, -1], [BELOW, 0xD800]):
            told = ask(small_tables(), open_pieces(1), put([S, ABOVE]), put(wrong), put([BELOW]), put([A]), end())
            self.assertEqual(told[2:], [[0], [-1 if len(wrong) > 100 else -3], [0], [0, S_BOTH], [0, A]])

    def test_refused_numbers_do_not_count(self):
        calls = [open_pieces(1), put([A] + [VOWEL] * 15), put([VOWEL, -1]), put([VOWEL] * 101), put([B]), end()]
        self.assertEqual(ask(*calls), [[0], [0], [-3], [-1], [0, A] + [VOWEL] * 15, [0, B]])

    def test_other_calls_leave_pieces(self):
        others = [
            form(0, [A_RING]), is_form(1, [A]), same(0, [A], [B]), join(1, [A], [RING]), key(3, 1, [S]),
            compare(1, 0, [A], [S]), order(1, 0, [1, 1], [S, A]), find(1, [S, A], [A]), tables(pool=[0xD800]),
            tables(pool=[-1]), open_pieces(4), form(4, []), key(0, 0, []), compare(1, 2, [], []), order(1, 0, [1], []),
            find(1, [A], []), find(1, [A], [-1]),
        ]
        for call in others:
            told = ask(small_tables(), open_pieces(1), put([S, ABOVE]), call, put([BELOW]), call, put([A]), call, end())
            self.assertEqual([told[2], told[4], told[6], told[8]], [[0], [0], [0, S_BOTH], [0, A]], call)

    def test_open_forgets_those_before(self):
        calls = [small_tables(), open_pieces(0), put([A, S]), open_pieces(1), put([ABOVE]), put([A]), end()]
        self.assertEqual(ask(*calls)[2:], [[0, A], [0], [0], [0, ABOVE], [0, A]])

    def test_tables_that_are_not_taken_leave_what_is_safe(self):
        calls = [small_tables(), open_pieces(1), put([S]), tables(cls=[(S, S, 0)]), put([ABOVE]), put([S]), end()]
        self.assertEqual(ask(*calls)[2:], [[0], [0, 2, 0], [0], [0, S_ABOVE], [0, S]])

    def test_pieces_go_by_the_tables_that_are_there(self):
        calls = [small_tables(), open_pieces(1), put([S, ABOVE]), tables(), open_pieces(1), put([S, ABOVE]), end()]
        self.assertEqual(ask(*calls)[4:], [[0], [0, S], [0, ABOVE]])


if __name__ == "__main__":
    unittest.main()
