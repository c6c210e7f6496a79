"""Promise 12: find."""

import time
import unittest

from helper import ABOVE, A_RING, BELOW, RING, S, S_BOTH, ask, ask_one, find, key, small_tables, tables

A, B, C, H, X = 0x61, 0x62, 0x63, 0x68, 0x78
CAPITAL_A, ACUTE, GRAVE, HYPHEN, NOTHING = 0x41, 0x301, 0x300, 0x2D, 0xAD
WORDS = tables(
    pool=[A, ACUTE, ACUTE, A], dec=[(0xE1, 0, 0, 2), (0x3000, 0, 2, 2), (0x3001, 1, 2, 1)],
    pair=[(A, ACUTE, 0xE1)], cls=[(GRAVE, ACUTE, 230)],
    key=[
        (1, 7, 1, HYPHEN, 0, 0), (1, 4, 1, CAPITAL_A, 0, 0), (1, 0, 1, A, 0, 0), (1, 1, 1, B, 0, 0),
        (1, 2, 1, C, 0, 0), (2, 3, 1, C, H, 0), (3, 0, 2, C, H, X), (1, 0, 0, NOTHING, 0, 0), (1, 6, 1, GRAVE, 0, 0),
        (1, 5, 1, ACUTE, 0, 0),
    ],
    weight=[(10, 20, 2), (11, 20, 2), (12, 20, 2), (13, 20, 2), (10, 20, 8), (0, 30, 3), (0, 31, 3), (0, 0, 4)])


def found(level, x, y, tables_call=WORDS):
    return ask_one(tables_call, find(level, x, y))


class Found(unittest.TestCase):
    def by_level(self, x, y):
        return [found(level, x, y)[1:] for level in (1, 2, 3)]

    def test_a_place_and_how_many(self):
        self.assertEqual(self.by_level([B, C, A, B], [A]), [[1, 2, 1]] * 3)
        self.assertEqual(self.by_level([B, C, A, B], [B, C, A, B]), [[1, 0, 4]] * 3)
        self.assertEqual(self.by_level([B, C, A, B], [A, B]), [[1, 2, 2]] * 3)
        self.assertEqual(found(1, [B, A], [A]), [0, 1, 1, 1])

    def test_none(self):
        self.assertEqual(self.by_level([B, C], [A]), [[0]] * 3)
        self.assertEqual(self.by_level([], [A]), [[0]] * 3)
        self.assertEqual(self.by_level([A], [A, A]), [[0]] * 3)
        self.assertEqual(found(3, [], [A]), [0, 0])

    def test_levels(self):
        self.assertEqual(self.by_level([B, CAPITAL_A, A], [A]), [[1, 1, 1], [1, 1, 1], [1, 2, 1]])
        self.assertEqual(self.by_level([B, A, ACUTE, CAPITAL_A, A], [A]), [[1, 1, 2], [1, 3, 1], [1, 4, 1]])

    def test_the_least_i(self):
        self.assertEqual(self.by_level([B, A, B, A], [A]), [[1, 1, 1]] * 3)
        self.assertEqual(self.by_level([HYPHEN, A, B], [A]), [[1, 0, 2], [1, 0, 2], [1, 1, 1]])
        self.assertEqual(self.by_level([B, NOTHING, NOTHING, A, B], [A]), [[1, 1, 3]] * 3)

    def test_then_the_least_j(self):
        self.assertEqual(self.by_level([A, NOTHING, HYPHEN, B], [A]), [[1, 0, 1]] * 3)
        self.assertEqual(self.by_level([A, HYPHEN, NOTHING, B], [A, HYPHEN]), [[1, 0, 1], [1, 0, 1], [1, 0, 2]])
        self.assertEqual(self.by_level([NOTHING, A, HYPHEN], [A, HYPHEN]), [[1, 0, 2], [1, 0, 2], [1, 0, 3]])

    def test_places_are_those_of_x_as_it_is_written(self):
        self.assertEqual(self.by_level([0xE1, 0xE1, B], [B]), [[1, 2, 1]] * 3)
        self.assertEqual(self.by_level([A, ACUTE, 0xE1, B], [A, ACUTE, B]), [[1, 2, 2]] * 3)
        self.assertEqual(self.by_level([B, A, ACUTE], [0xE1]), [[1, 1, 2]] * 3)
        self.assertEqual(found(3, [0xAC01, B], [B]), [0, 1, 1, 1])

    def test_however_x_and_y_are_written(self):
        for x in ([A_RING, S_BOTH], [0x41, RING, S, ABOVE, BELOW], [0x41, RING, S, BELOW, ABOVE]):
            start = 1 if len(x) == 2 else 2
            for y in ([S_BOTH], [S, ABOVE, BELOW]):
                self.assertEqual(found(3, x, y, small_tables()), [0, 1, start, len(x) - start])
        self.assertEqual(found(3, [B, 0x1100, 0x1161, 0x11A8], [0xAC01]), [0, 1, 1, 3])
        self.assertEqual(found(3, [B, 0xAC01], [0x1100, 0x1161, 0x11A8]), [0, 1, 1, 1])

    def test_back_is_0(self):
        # From the last to the first, the second weights of these two would be alike.
        rows = tables(key=[(1, 0, 1, A, 0, 0), (1, 1, 2, B, 0, 0), (1, 3, 2, C, 0, 0)],
                      weight=[(2, 2, 2), (3, 4, 2), (0, 5, 2), (3, 5, 2), (0, 4, 2)])
        self.assertEqual(found(2, [A, B, C], [C], rows), [0, 1, 2, 1])
        self.assertEqual(found(1, [A, B, C], [C], rows), [0, 1, 1, 1])
        self.assertEqual(found(2, [A, B, A], [A, C, A], rows), [0, 0])

    def test_without_tables(self):
        self.assertEqual(found(3, [5, 6, 7], [6, 7], tables()), [0, 1, 1, 2])
        self.assertEqual(found(1, [5, 6, 7], [7, 6], tables()), [0, 0])
        self.assertEqual(ask_one(find(2, [0x10FFFF], [0x10FFFF])), [0, 1, 0, 1])


class Joints(unittest.TestCase):
    def test_no_stretch_ends_before_a_mark(self):
        self.assertEqual(found(2, [A, ACUTE, B], [A]), [0, 0])
        self.assertEqual(found(1, [A, ACUTE, B], [A]), [0, 1, 0, 2])
        self.assertEqual(found(1, [A, ACUTE, GRAVE, ACUTE], [A]), [0, 1, 0, 4])

    def test_no_stretch_begins_with_a_mark(self):
        self.assertEqual(found(2, [B, ACUTE], [ACUTE]), [0, 0])
        self.assertEqual(found(2, [B, ACUTE, A], [ACUTE, A]), [0, 0])

    def test_the_beginning_and_the_end_are_joints(self):
        self.assertEqual(found(2, [ACUTE, A], [ACUTE]), [0, 1, 0, 1])
        self.assertEqual(found(2, [ACUTE], [ACUTE]), [0, 1, 0, 1])
        self.assertEqual(found(2, [ACUTE, GRAVE], [ACUTE]), [0, 0])
        self.assertEqual(found(2, [ACUTE, GRAVE], [ACUTE, GRAVE]), [0, 1, 0, 2])
        self.assertEqual(found(2, [B, A, ACUTE], [A, ACUTE]), [0, 1, 1, 2])

    def test_what_begins_with_a_mark_apart_is_no_joint(self):
        # 0x3000 is no mark, but comes apart strictly into a mark and a letter.
        self.assertEqual(found(2, [B, 0x3000], [B]), [0, 0])
        self.assertEqual(found(2, [B, 0x3000], [ACUTE, A]), [0, 0])
        self.assertEqual(found(2, [B, 0x3000], [B, ACUTE, A]), [0, 1, 0, 2])
        self.assertEqual(found(2, [0x3000, B], [ACUTE, A]), [0, 1, 0, 1])

    def test_loose_records_do_not_count(self):
        # 0x3001 comes apart loosely alone into a mark.
        self.assertEqual(found(2, [B, 0x3001], [B]), [0, 1, 0, 1])
        self.assertEqual(found(2, [B, 0x3001, B], [0x3001]), [0, 1, 1, 1])

    def test_syllables_and_their_parts_are_joints(self):
        for parts in ([0xAC00, 0xAC01], [0x1100, 0x1161], [0x1161, 0x11A8]):
            self.assertEqual(found(3, parts, parts[1:]), [0, 1, 1, 1])
            self.assertEqual(found(3, parts, parts[:1]), [0, 1, 0, 1])
        self.assertEqual(found(3, [0xAC01], [0x1100]), [0, 0])

    def test_a_stretch_is_a_text_of_its_own(self):
        self.assertEqual(found(3, [C, H], [C]), [0, 1, 0, 1])
        self.assertEqual(found(3, [B, C, H, B], [C]), [0, 1, 1, 1])
        self.assertEqual(found(3, [C, H, X], [C, H]), [0, 1, 0, 2])
        self.assertEqual(found(3, [C, H, X], [C, H, X]), [0, 1, 0, 3])
        self.assertEqual(found(3, [C, H, X], [H]), [0, 1, 1, 1])
        self.assertEqual(found(3, [C, H, X], [H, X]), [0, 1, 1, 2])
        self.assertEqual(found(3, [C, C, H, X], [A, B]), [0, 1, 1, 3])
        self.assertEqual(found(3, [C, H, C, H, X, C], [C, H, C]), [0, 1, 0, 3])
        self.assertEqual(found(3, [C, H, C, H, X, C], [C, H, C, H]), [0, 1, 0, 4])

    def test_marks_are_put_in_order_within_a_stretch(self):
        text = [S, ABOVE, BELOW, S, BELOW, ABOVE]
        self.assertEqual(found(3, text, [S, BELOW, ABOVE], small_tables()), [0, 1, 0, 3])
        self.assertEqual(found(3, text, [S, ABOVE, BELOW] * 2, small_tables()), [0, 1, 0, 6])


class NothingToFind(unittest.TestCase):
    def by_level(self, y, x=(A, B)):
        return [found(level, list(x), y) for level in (1, 2, 3)]

    def test_a_key_of_nothing_but_1s(self):
        self.assertEqual(self.by_level([NOTHING]), [[-4]] * 3)
        self.assertEqual(self.by_level([NOTHING] * 30), [[-4]] * 3)
        self.assertEqual(self.by_level([HYPHEN]), [[-4], [-4], [0, 0]])
        self.assertEqual(self.by_level([ACUTE]), [[-4], [0, 0], [0, 0]])
        self.assertEqual(self.by_level([ACUTE, HYPHEN], [ACUTE, HYPHEN]), [[-4], [0, 1, 0, 1], [0, 1, 0, 2]])
        self.assertEqual(self.by_level([A, HYPHEN]), [[0, 1, 0, 1], [0, 1, 0, 1], [0, 0]])

    def test_whatever_x_is(self):
        for x in ([], [NOTHING], [A] * 30):
            self.assertEqual(found(3, x, [NOTHING]), [-4])

    def test_behind_the_other_refusals(self):
        for level in (-1, 0, 4, 10 ** 18, -10 ** 18):
            self.assertEqual(found(level, [A], [NOTHING]), [-1])
        self.assertEqual(found(1, [A] * 31, [NOTHING]), [-1])
        self.assertEqual(found(1, [A], [NOTHING] * 31), [-1])
        self.assertEqual(found(1, [-1], [NOTHING]), [-3])
        self.assertEqual(found(1, [A], [NOTHING, 0xD800]), [-3])

    def test_the_object_is_as_it_was(self):
        told = ask(WORDS, find(1, [A], [NOTHING]), key(1, 0, [A]), find(1, [B, A], [A]))
        self.assertEqual(told[1:], [[-4], [0, 10], [0, 1, 1, 1]])


class Limits(unittest.TestCase):
    def test_30_and_31(self):
        self.assertEqual(found(3, [A] * 30, [A] * 30), [0, 1, 0, 30])
        self.assertEqual(found(3, [B] * 29 + [A], [A]), [0, 1, 29, 1])
        for length in (31, 100, 400):
            self.assertEqual(found(3, [A] * length, [A]), [-1])
            self.assertEqual(found(3, [A], [A] * length), [-1])

    def test_y_of_1_at_least(self):
        self.assertEqual(found(1, [A], []), [-1])
        self.assertEqual(found(1, [], []), [-1])
        self.assertEqual(found(1, [-1], []), [-1])

    def test_in_good_time(self):
        # Rows and keys as long as may be, and a text of 30 with a joint at each place, in 99 calls.
        rows = tables(
            pool=[A, B, A, A], dec=[(0x3000, 0, 0, 4)], key=[(1, 0, 4, A, 0, 0), (3, 0, 4, A, A, A), (1, 0, 4, B, 0, 0)],
            weight=[(2, 2, 2)] * 4, cls=[(0x4000 + 2 * k, 0x4000 + 2 * k, 254 - k) for k in range(128)])
        begun = time.process_time()
        told = ask(rows, *[find(3, [0x3000] * 30, [0x3000] * 29 + [C])] * 99)
        self.assertEqual(told, [[0, 0, 0]] + [[0, 0]] * 99)
        self.assertLess(time.process_time() - begun, 30)


if __name__ == "__main__":
    unittest.main()
