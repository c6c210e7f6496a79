"""Promises 9 to 11: key, cmp and order."""

import unittest

from helper import (
    A, ABOVE, ANGSTROM, A_RING, BELOW, LONG_S, RING, S, S_ABOVE, S_BELOW, S_BOTH, ask_one, compare, flat, key,
    order, small, small_tables, tables,
)

# Letters and their capitals, an accent, a sign that counts on the third level alone, and one that counts nowhere.
LOW_A, LOW_B, LOW_C, LOW_H, LOW_X, CAPITAL_A, CAPITAL_B = 0x61, 0x62, 0x63, 0x68, 0x78, 0x41, 0x42
ACUTE, GRAVE, HYPHEN, NOTHING = 0x301, 0x300, 0x2D, 0xAD
WORDS = tables(
    pool=[LOW_A, ACUTE], dec=[(0xE1, 0, 0, 2)], pair=[(LOW_A, ACUTE, 0xE1)], cls=[(GRAVE, ACUTE, 230)],
    key=[
        (1, 6, 1, HYPHEN, 0, 0), (1, 2, 1, CAPITAL_A, 0, 0), (1, 3, 1, CAPITAL_B, 0, 0), (1, 0, 1, LOW_A, 0, 0),
        (1, 1, 1, LOW_B, 0, 0), (1, 0, 0, NOTHING, 0, 0), (1, 5, 1, GRAVE, 0, 0), (1, 4, 1, ACUTE, 0, 0),
    ],
    weight=[(10, 20, 2), (11, 20, 2), (10, 20, 8), (11, 20, 8), (0, 30, 3), (0, 31, 3), (0, 0, 4)])


def keyed(*records, **rows):
    """Tables in which each of these texts weighs the number that stands behind it, on all levels."""
    keys, weights = [], []
    for codes, number in records:
        keys.append((len(codes), len(weights), 1) + tuple((list(codes) + [0, 0])[:3]))
        weights.append((number, number, number))
    return tables(key=sorted(keys, key=lambda record: record[3:]), weight=weights, **rows)


class Keys(unittest.TestCase):
    def first_level(self, tables_call, *codes):
        return ask_one(tables_call, key(1, 0, codes))[1:]

    def test_levels(self):
        text = [LOW_A, ACUTE, CAPITAL_B]
        self.assertEqual(ask_one(WORDS, key(1, 0, text)), [0, 10, 11])
        self.assertEqual(ask_one(WORDS, key(2, 0, text)), [0, 10, 11, 1, 20, 30, 20])
        self.assertEqual(ask_one(WORDS, key(3, 0, text)), [0, 10, 11, 1, 20, 30, 20, 1, 2, 3, 8])

    def test_back_turns_the_second_level_alone(self):
        text = [LOW_A, ACUTE, CAPITAL_B, GRAVE]
        self.assertEqual(ask_one(WORDS, key(1, 1, text)), [0, 10, 11])
        self.assertEqual(ask_one(WORDS, key(2, 1, text)), [0, 10, 11, 1, 31, 20, 30, 20])
        self.assertEqual(ask_one(WORDS, key(3, 1, text)), [0, 10, 11, 1, 31, 20, 30, 20, 1, 2, 3, 8, 3])

    def test_back_turns_the_weights_of_one_key_too(self):
        rows = tables(key=[(1, 0, 3, 0x61, 0, 0)], weight=[(2, 3, 4), (0, 5, 6), (7, 8, 9)])
        self.assertEqual(ask_one(rows, key(3, 0, [0x61])), [0, 2, 7, 1, 3, 5, 8, 1, 4, 6, 9])
        self.assertEqual(ask_one(rows, key(3, 1, [0x61])), [0, 2, 7, 1, 8, 5, 3, 1, 4, 6, 9])

    def test_an_empty_text(self):
        for back in (0, 1):
            told = [ask_one(WORDS, key(level, back, [])) for level in (1, 2, 3)]
            self.assertEqual(told, [[0], [0, 1], [0, 1, 1]])

    def test_numbers_that_are_0_are_left_out(self):
        told = [ask_one(WORDS, key(level, 0, [HYPHEN, ACUTE, NOTHING])) for level in (1, 2, 3)]
        self.assertEqual(told, [[0], [0, 1, 30], [0, 1, 30, 1, 4, 3]])
        told = [ask_one(WORDS, key(level, 0, [NOTHING, NOTHING])) for level in (1, 2, 3)]
        self.assertEqual(told, [[0], [0, 1], [0, 1, 1]])
        rows = tables(key=[(1, 0, 1, 0x61, 0, 0)], weight=[(0, 0, 0)])
        self.assertEqual(ask_one(rows, key(3, 0, [0x61])), [0, 1, 1])

    def test_the_greatest_weights(self):
        rows = tables(key=[(1, 0, 4, 0x61, 0, 0)], weight=[(65535, 65535, 65535)] * 4)
        told = ask_one(rows, key(3, 1, [0x61] * 100))
        self.assertEqual(told, [0] + [65535] * 400 + [1] + [65535] * 400 + [1] + [65535] * 400)

    def test_without_a_key(self):
        for code, first, second in (
            (0, 0xFB40, 0x8000), (0x61, 0xFB40, 0x8061), (0x7FFF, 0xFB40, 0xFFFF), (0x8000, 0xFB41, 0x8000),
            (0x8001, 0xFB41, 0x8001), (0xFFFF, 0xFB41, 0xFFFF), (0x10000, 0xFB42, 0x8000), (0x10FFFF, 0xFB61, 0xFFFF),
        ):
            told = [ask_one(key(level, 0, [code])) for level in (1, 2, 3)]
            self.assertEqual(told, [[0, first, second], [0, first, second, 1, 32], [0, first, second, 1, 32, 1, 2]])

    def test_several_without_a_key(self):
        told = ask_one(WORDS, key(3, 1, [0x7A, CAPITAL_A, 0x9000]))
        self.assertEqual(told, [0, 0xFB40, 0x807A, 10, 0xFB41, 0x9000, 1, 32, 20, 32, 1, 2, 8, 2])

    def test_the_longest_key_counts(self):
        rows = keyed(([LOW_C], 2), ([LOW_H], 3), ([LOW_X], 4), ([LOW_C, LOW_H], 5), ([LOW_C, LOW_H, LOW_X], 6))
        self.assertEqual(self.first_level(rows, LOW_C), [2])
        self.assertEqual(self.first_level(rows, LOW_C, LOW_H), [5])
        self.assertEqual(self.first_level(rows, LOW_C, LOW_H, LOW_X), [6])
        self.assertEqual(self.first_level(rows, LOW_C, LOW_X), [2, 4])
        self.assertEqual(self.first_level(rows, LOW_C, LOW_H, LOW_H, LOW_X), [5, 3, 4])
        self.assertEqual(self.first_level(rows, LOW_C, LOW_C, LOW_H, LOW_C, LOW_H, LOW_X, LOW_C), [2, 5, 6, 2])

    def test_a_key_of_three_without_one_of_two(self):
        rows = keyed(([LOW_C], 2), ([LOW_C, LOW_H, LOW_X], 6))
        self.assertEqual(self.first_level(rows, LOW_C, LOW_H, LOW_X), [6])
        self.assertEqual(self.first_level(rows, LOW_C, LOW_H), [2, 0xFB40, 0x8000 + LOW_H])
        self.assertEqual(self.first_level(rows, LOW_C, LOW_H, LOW_C), [2, 0xFB40, 0x8000 + LOW_H, 2])

    def test_a_key_of_two_without_one_of_one(self):
        rows = keyed(([LOW_C, LOW_H], 5))
        self.assertEqual(self.first_level(rows, LOW_C, LOW_H, LOW_C), [5, 0xFB40, 0x8000 + LOW_C])

    def test_from_left_to_right(self):
        rows = keyed(([LOW_A], 2), ([LOW_C], 3), ([LOW_A, LOW_B], 4), ([LOW_B, LOW_C], 5), ([LOW_B, LOW_C, LOW_C], 6))
        self.assertEqual(self.first_level(rows, LOW_A, LOW_B, LOW_C), [4, 3])
        self.assertEqual(self.first_level(rows, LOW_A, LOW_A, LOW_B, LOW_B, LOW_C, LOW_C), [2, 4, 6])

    def test_code_point_0_in_a_key(self):
        rows = keyed(([0x61, 0], 2), ([0, 0, 0], 3), ([0x61, 0, 0x62], 4))
        self.assertEqual(self.first_level(rows, 0x61, 0, 0, 0, 0), [2, 3])
        self.assertEqual(self.first_level(rows, 0x61), [0xFB40, 0x8061])
        self.assertEqual(self.first_level(rows, 0x61, 0, 0x62), [4])
        self.assertEqual(self.first_level(rows, 0, 0), [0xFB40, 0x8000] * 2)

    def test_several_weights_of_a_key_in_order(self):
        rows = tables(key=[(2, 1, 4, 0x61, 0x62, 0)], weight=[(k, k, k) for k in (9, 5, 3, 7, 2, 8)])
        self.assertEqual(self.first_level(rows, 0x61, 0x62, 0x61, 0x62), [5, 3, 7, 2, 5, 3, 7, 2])

    def test_of_form_0(self):
        self.assertEqual(ask_one(WORDS, key(3, 0, [0xE1])), ask_one(WORDS, key(3, 0, [LOW_A, ACUTE])))
        rows = small()
        rows["key"] = [(3, 0, 1, S, BELOW, ABOVE)]
        for text in ([S_BOTH], [S, ABOVE, BELOW], [S, BELOW, ABOVE], [S_ABOVE, BELOW], [S_BELOW, ABOVE]):
            self.assertEqual(ask_one(tables(**rows), key(3, 0, text)), [0, 2, 1, 2, 1, 2], text)
        self.assertEqual(ask_one(small_tables(), key(1, 0, [ANGSTROM])), [0, 2, 0xFB40, 0x8000 + RING])

    def test_syllables_by_their_parts(self):
        rows = keyed(([0x1100], 2), ([0x1161], 3), ([0x11A8], 4), ([0x11A8, 0x1100], 5))
        self.assertEqual(self.first_level(rows, 0xAC01), [2, 3, 4])
        self.assertEqual(self.first_level(rows, 0xAC01, 0xAC00), [2, 3, 5, 3])

    def test_loose_records_do_not_count(self):
        rows = small()
        rows["key"] = [(1, 0, 1, S, 0, 0), (1, 1, 1, LONG_S, 0, 0)]
        self.assertEqual(ask_one(tables(**rows), key(1, 0, [S, LONG_S])), [0, 2, 65535])
        rows["key"] = [(1, 0, 1, S, 0, 0)]
        self.assertEqual(ask_one(tables(**rows), key(1, 0, [LONG_S])), [0, 0xFB40, 0x8000 + LONG_S])

    def test_keys_over_marks_that_change_places(self):
        records = (([ABOVE], 2), ([BELOW], 3), ([A, BELOW], 4))
        self.assertEqual(self.first_level(keyed(*records), A, ABOVE, BELOW), [0xFB40, 0x8041, 2, 3])
        marks = keyed(*records, cls=[(ABOVE, ABOVE, 230), (BELOW, BELOW, 220)])
        self.assertEqual(self.first_level(marks, A, ABOVE, BELOW), [4, 2])


class Compare(unittest.TestCase):
    def told(self, x, y, level=3, back=0, tables_call=WORDS):
        turned = {1: 3, 2: 2, 3: 1}
        one = ask_one(tables_call, compare(level, back, x, y))
        two = ask_one(tables_call, compare(level, back, y, x))
        self.assertEqual((len(one), len(two), one[0], two[0]), (2, 2, 0, 0))
        self.assertEqual(two[1], turned[one[1]])
        return one[1]

    def by_level(self, x, y, back=0):
        return [self.told(x, y, level, back) for level in (1, 2, 3)]

    def test_before_alike_behind(self):
        self.assertEqual(self.by_level([LOW_A], [LOW_B]), [1, 1, 1])
        self.assertEqual(self.by_level([LOW_A], [LOW_A]), [2, 2, 2])
        self.assertEqual(self.by_level([LOW_B], [LOW_A, LOW_A]), [3, 3, 3])

    def test_accents_count_less_than_letters(self):
        self.assertEqual(self.by_level([LOW_A], [LOW_A, ACUTE]), [2, 1, 1])
        self.assertEqual(self.by_level([LOW_A, ACUTE, LOW_A], [LOW_A, LOW_B]), [1, 1, 1])
        self.assertEqual(self.by_level([LOW_A, ACUTE], [LOW_A, GRAVE]), [2, 1, 1])

    def test_capitals_count_less_than_accents(self):
        self.assertEqual(self.by_level([LOW_A], [CAPITAL_A]), [2, 2, 1])
        self.assertEqual(self.by_level([CAPITAL_A], [LOW_A, ACUTE]), [2, 1, 1])
        self.assertEqual(self.by_level([LOW_A], [LOW_A, HYPHEN]), [2, 2, 1])
        self.assertEqual(self.by_level([LOW_A], [NOTHING, LOW_A]), [2, 2, 2])

    def test_back(self):
        # With the accent on the first letter, and on the last.
        first, last = [LOW_A, ACUTE, LOW_A], [LOW_A, LOW_A, ACUTE]
        self.assertEqual(self.by_level(first, last), [2, 3, 3])
        self.assertEqual(self.by_level(first, last, back=1), [2, 1, 1])

    def test_a_beginning_is_before(self):
        self.assertEqual(self.by_level([], [LOW_A]), [1, 1, 1])
        self.assertEqual(self.by_level([LOW_A, LOW_B], [LOW_A, LOW_B, LOW_A]), [1, 1, 1])
        self.assertEqual(self.by_level([LOW_A, ACUTE], [LOW_A, ACUTE, ACUTE]), [2, 1, 1])
        self.assertEqual(self.by_level([], []), [2, 2, 2])
        self.assertEqual(self.by_level([], [NOTHING]), [2, 2, 2])

    def test_number_by_number(self):
        rows = keyed(([0x61], 9), ([0x62], 10), ([0x63], 1000))
        self.assertEqual(self.told([0x61, 0x63], [0x62], tables_call=rows), 1)
        self.assertEqual(self.told([0x63], [0x62, 0x62, 0x62], tables_call=rows), 3)

    def test_the_same_texts_are_alike(self):
        self.assertEqual(self.by_level([0xE1], [LOW_A, ACUTE]), [2, 2, 2])
        self.assertEqual(self.told([S_BOTH], [S, ABOVE, BELOW], tables_call=small_tables()), 2)
        self.assertEqual(self.told([A_RING], [ANGSTROM], tables_call=small_tables()), 2)
        self.assertEqual(self.told([0xAC01], [0x1100, 0x1161, 0x11A8], tables_call=tables()), 2)

    def test_two_letters_that_count_as_one(self):
        rows = keyed(([LOW_C], 5), ([LOW_C, LOW_H], 6), ([LOW_X], 4))
        self.assertEqual(self.told([LOW_C, LOW_X], [LOW_C, LOW_H], tables_call=rows), 1)
        self.assertEqual(self.told([LOW_C, LOW_C], [LOW_C, LOW_H], tables_call=rows), 1)

    def test_without_tables_by_code_point(self):
        codes = [0, 0x41, 0x7FFF, 0x8000, 0x10000, 0x10FFFF]
        for place in range(len(codes) - 1):
            self.assertEqual(self.told([codes[place]], [codes[place + 1]], tables_call=tables()), 1)


class Order(unittest.TestCase):
    def ordered(self, texts, level=3, back=0, tables_call=WORDS):
        return ask_one(tables_call, order(level, back, [len(text) for text in texts], flat(texts)))

    def test_by_key(self):
        texts = [[LOW_B], [LOW_A, LOW_B], [CAPITAL_A], [LOW_A, ACUTE], [LOW_A]]
        self.assertEqual(self.ordered(texts), [0, 4, 2, 3, 1, 0])
        self.assertEqual(self.ordered(texts, level=2), [0, 2, 4, 3, 1, 0])
        self.assertEqual(self.ordered(texts, level=1), [0, 2, 3, 4, 1, 0])

    def test_equal_keys_as_they_stand(self):
        self.assertEqual(self.ordered([[LOW_A]] * 5), [0, 0, 1, 2, 3, 4])
        self.assertEqual(self.ordered([[LOW_B], [0xE1], [LOW_A, ACUTE], [LOW_B], [0xE1]]), [0, 1, 2, 4, 0, 3])
        self.assertEqual(self.ordered([[CAPITAL_B], [LOW_B], [CAPITAL_A], [LOW_A]], level=2), [0, 2, 3, 0, 1])

    def test_back(self):
        texts = [[LOW_A, LOW_A, ACUTE], [LOW_A, ACUTE, LOW_A]]
        self.assertEqual(self.ordered(texts), [0, 0, 1])
        self.assertEqual(self.ordered(texts, back=1), [0, 1, 0])
        self.assertEqual(self.ordered(texts, level=1, back=1), [0, 0, 1])

    def test_lengths_of_0(self):
        self.assertEqual(self.ordered([[LOW_A], [], [LOW_B], []]), [0, 1, 3, 0, 2])
        self.assertEqual(self.ordered([[], [], []]), [0, 0, 1, 2])
        self.assertEqual(self.ordered([[]] * 100), [0] + list(range(100)))
        self.assertEqual(self.ordered([[NOTHING], [], [LOW_A]]), [0, 0, 1, 2])

    def test_no_texts(self):
        self.assertEqual(self.ordered([]), [0])

    def test_one_text_and_a_hundred(self):
        self.assertEqual(self.ordered([[LOW_A] * 100]), [0, 0])
        self.assertEqual(self.ordered([[code] for code in range(200, 100, -1)], tables_call=tables()),
                         [0] + list(reversed(range(100))))

    def test_each_text_by_itself(self):
        # Neither a key nor a mark goes from one text into the next.
        rows = keyed(([LOW_C], 5), ([LOW_H], 4), ([LOW_C, LOW_H], 2))
        self.assertEqual(self.ordered([[LOW_C], [LOW_H]], tables_call=rows), [0, 1, 0])
        self.assertEqual(self.ordered([[LOW_C, LOW_H], [LOW_H]], tables_call=rows), [0, 0, 1])
        self.assertEqual(self.ordered([[LOW_B], [ACUTE, LOW_A]]), [0, 1, 0])
        self.assertEqual(self.ordered([[LOW_A], [ACUTE]]), [0, 1, 0])


if __name__ == "__main__":
    unittest.main()
