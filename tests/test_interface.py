"""The interface: how answers are written, and that nothing is changed or kept."""

import unittest

from formorder.desk import answers
from helper import (
    A, ABOVE, A_RING, BELOW, RING, S, S_BOTH, compare, cut, end, find, form, is_form, join, key, open_pieces, order,
    put, same, small_tables, tables,
)


class NotToBeChanged(list):
    """A list that fails at the first try to change it."""

    def refuse(self, *arguments, **named):
        raise AssertionError("the list handed in was changed")

    append = extend = insert = pop = remove = clear = sort = reverse = refuse
    __setitem__ = __delitem__ = __iadd__ = __imul__ = refuse


MIXED = (small_tables() + form(1, [S, ABOVE, BELOW]) + is_form(0, [A_RING]) + same(0, [A_RING], [A, RING])
         + join(1, [A], [RING]) + open_pieces(2) + tables(pool=[0xD800]) + form(4, [A]) + form(0, [-1])
         + form(0, []) + put([A, S, ABOVE]) + put([-1]) + key(3, 1, [A, A]) + put([]) + compare(1, 0, [A], [S])
         + put([BELOW, A]) + order(1, 0, [1, 0, 1], [S, A]) + end() + find(1, [S, A], [A]) + find(1, [S], [A])
         + end() + put([A] * 101) + tables() + end() + compare(1, 0, [A], [A]))
MIXED_ANSWERS = [
    3, 0, 0, 0, 2, 0, S_BOTH, 2, 0, 0, 2, 0, 1, 2, 0, A_RING, 1, 0, 3, 0, 1, 0, 1, -1, 1, -3,
    1, 0, 2, 0, A, 1, -3, 9, 0, 2, 2, 1, 2, 2, 1, 2, 2, 1, 0, 2, 0, 1,
    4, 0, S, BELOW, ABOVE, 4, 0, 1, 2, 0, 2, 0, A, 4, 0, 1, 1, 1, 2, 0, 0,
    1, -5, 1, -1, 3, 0, 0, 0, 1, -2, 2, 0, 2]


class Answers(unittest.TestCase):
    def test_how_many_and_then_the_answer(self):
        self.assertEqual(answers(MIXED), MIXED_ANSWERS)

    def test_lists_of_whole_numbers(self):
        told = answers(MIXED)
        self.assertIs(type(told), list)
        self.assertEqual({type(number) for number in told}, {int})

    def test_nothing_handed_in_is_changed(self):
        handed_in = NotToBeChanged(MIXED)
        self.assertEqual(answers(handed_in), MIXED_ANSWERS)
        self.assertEqual(list(handed_in), MIXED)

    def test_the_answer_is_a_list_of_its_own(self):
        told = answers(MIXED)
        told.clear()
        self.assertEqual(answers(MIXED), MIXED_ANSWERS)

    def test_nothing_is_kept(self):
        asked = form(1, [S, ABOVE, BELOW]) + is_form(0, [A_RING]) + key(1, 0, [A]) + put([A]) + end()
        alone = [4, 0, S, ABOVE, BELOW, 2, 0, 1, 3, 0, 0xFB40, 0x8000 + A, 1, -2, 1, -2]
        self.assertEqual(answers(asked), alone)
        answers(small_tables() + open_pieces(1) + put([A, S]))
        self.assertEqual(answers(asked), alone)
        self.assertEqual(answers(small_tables() + open_pieces(1) + asked),
                         [3, 0, 0, 0, 1, 0, 2, 0, S_BOTH, 2, 0, 0, 2, 0, 2, 1, 0, 2, 0, A])
        self.assertEqual(answers(asked), alone)

    def test_tables_are_kept_within_a_list(self):
        told = answers(small_tables() + join(1, [A], [RING]) * 50 + form(0, [A_RING]) * 49)
        self.assertEqual(told, [3, 0, 0, 0] + [2, 0, A_RING] * 50 + [3, 0, A, RING] * 49)

    def test_the_longest_list(self):
        # 100 calls of about 17000 numbers, marks in the worst order and rows of the greatest length among them.
        rows = tables(
            pool=[0x61, 0x62, 0x63, 0x64], dec=[(0x3000 + k, k % 2, 0, 4) for k in range(128)],
            cls=[(0x4000 + 2 * k, 0x4000 + 2 * k, 254 - k) for k in range(128)])
        text = [0x4000 + 2 * k for k in range(60)] + [0x3000] * 19
        calls = rows + join(3, text, text) * 99
        self.assertLessEqual(len(calls), 17000)
        told = cut(answers(calls))
        marks = [0x4000 + 2 * k for k in reversed(range(60))]
        letters = [0x61, 0x62, 0x63, 0x64] * 19
        self.assertEqual(told, [[0, 0, 0]] + [[0] + (marks + letters) * 2] * 99)

    def test_the_longest_texts_in_every_call(self):
        # Rows of four, each of a code point that weighs four: no answer is longer.
        rows = tables(pool=[0x61] * 4, dec=[(0x3000, 0, 0, 4)], key=[(1, 0, 4, 0x61, 0, 0)], weight=[(2, 3, 4)] * 4)
        text = [0x3000] * 100
        weighed = [2] * 1600 + [1] + [3] * 1600 + [1] + [4] * 1600
        calls = (rows + key(3, 1, text) * 40 + compare(3, 0, text, text) * 20 + order(3, 0, [1] * 100, text) * 20
                 + open_pieces(3) + put(text) * 2 + end())
        told = cut(answers(calls))
        self.assertEqual(told, [[0, 0, 0]] + [[0] + weighed] * 40 + [[0, 2]] * 20 + [[0] + list(range(100))] * 20
                         + [[0], [0] + [0x61] * 396, [0] + [0x61] * 400, [0] + [0x61] * 4])

    def test_a_hundred_calls(self):
        told = cut(answers(open_pieces(0) + put([A, S]) * 99))
        self.assertEqual(told, [[0], [0, A]] + [[0, S, A]] * 98)


if __name__ == "__main__":
    unittest.main()
