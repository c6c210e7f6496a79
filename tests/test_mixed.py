"""Lists of calls that mix all twelve calls on one object, held against the document's words written out plainly."""

import random
import unittest

from formorder.desk import answers
from helper import call_of, cut
from plain import PlainDesk, PlainTables

LETTERS = [0x61, 0x62, 0x63, 0x64, 0]
LOOSE_LETTERS = [0x68, 0x69, 0x8000]
MARKS = [0x300, 0x301, 0x302, 0x303, 0x304]
LOOSE_MARK = 0x305
PARTS = [0x1100, 0x1112, 0x1161, 0x1175, 0x11A7, 0x11A8, 0x11C2]
SYLLABLES = [0xAC00, 0xAC01, 0xAC1B, 0xD788, 0xD7A3]
WRONG = [-1, 0xD800, 0xDFFF, 0x110000, 10 ** 18, -10 ** 18]
WEIGHTS = [(0, 0, 0), (0, 0, 2), (0, 2, 2), (0, 3, 9), (2, 2, 2), (2, 3, 2), (3, 2, 2), (3, 2, 3), (65535, 40, 8)]


class Making:
    """Right tables by chance, small enough for what they hold to meet often."""

    def __init__(self, chance):
        self.chance = chance
        self.pool, self.dec, self.pair = [], [], []
        classes = [chance.choice([1, 9, 9, 230, 254]) for mark in MARKS]
        self.cls = [(mark, mark, cls) for mark, cls in zip(MARKS, classes)]
        # The mark that comes apart loosely has the class of what it comes apart into.
        self.cls.append((LOOSE_MARK, LOOSE_MARK, classes[0]))
        self.weight = [chance.choice(WEIGHTS) for turn in range(8)]
        self.key = []
        self.atoms = LETTERS + MARKS + PARTS
        self.fill()

    def tables(self):
        rows = (self.pool, self.dec, self.pair, self.cls, self.key, self.weight)
        return PlainTables([row if row is self.pool else [k for record in row for k in record] for row in rows])

    def add(self, code, kind, row):
        self.dec = sorted(self.dec + [(code, kind, len(self.pool), len(row))])
        self.pool = self.pool + row

    def some(self, choices, least, most):
        return [self.chance.choice(choices) for turn in range(self.chance.randint(least, most))]

    def fill(self):
        for code in LOOSE_LETTERS:
            if self.chance.random() < 0.7:
                self.add(code, 1, self.tables().ordered(self.some(self.atoms, 1, 3)))
        if self.chance.random() < 0.5:
            self.add(LOOSE_MARK, 1, [MARKS[0]])
        for code in range(0x3000, 0x3000 + self.chance.randint(1, 9)):
            self.add_strict(code)
        for code in range(0x3100, 0x3100 + self.chance.randint(0, 3)):
            self.add(code, 1, self.tables().ordered(self.some(self.atoms, 1, 4)))
        self.add_pairs()
        self.add_keys()

    def add_strict(self, code):
        letters = self.some(LETTERS + LOOSE_LETTERS + PARTS, 0, 2)
        marks = self.some(MARKS + [LOOSE_MARK], 0 if letters else 1, 2)
        tables = self.tables()
        row = tables.ordered(self.chance.choice([letters + marks, letters + marks, letters + marks, marks + letters]))
        loose = tables.apart(row, True)
        if any(tables.row(part, 1) for part in row):
            if len(loose) > 4:
                return
            self.add(code, 1, loose)
        self.add(code, 0, row)

    def add_pairs(self):
        strict = [record[0] for record in self.dec if record[1] == 0]
        letters = LETTERS + LOOSE_LETTERS + PARTS + strict
        tables = self.tables()
        known = {}
        for a in letters:
            for b in letters + MARKS + [LOOSE_MARK]:
                for c in strict:
                    tables.pair = [(a, b, c)]
                    if tables.rule5(0) and self.chance.random() < 0.8:
                        known[(a, b)] = (a, b, c)
        self.pair = [known[two] for two in sorted(known)]

    def add_keys(self):
        codes = LETTERS + LOOSE_LETTERS + PARTS + MARKS
        known = {}
        for turn in range(self.chance.randint(0, 14)):
            chosen = self.some(codes, 1, 3)
            if self.chance.random() < 0.5 and known:
                begun = list(self.chance.choice(list(known.values())))
                chosen = (begun[3:3 + begun[0]] + chosen)[:3]
            count = self.chance.randint(0, 4)
            record = (len(chosen), self.chance.randint(0, 8 - count), count) + tuple((chosen + [0, 0])[:3])
            known[record[3:]] = record
        self.key = [known[codes] for codes in sorted(known)]

    def rows(self):
        rows = (self.pool, self.dec, self.pair, self.cls, self.key, self.weight)
        return [list(row) if row is self.pool else [k for record in row for k in record] for row in rows]


class Asking:
    """Calls by chance, most of them taken."""

    def __init__(self, chance, making):
        self.chance = chance
        self.making = making
        strict = [record[0] for record in making.dec]
        self.codes = LETTERS[:3] + making.atoms + LOOSE_LETTERS + [LOOSE_MARK, 0x10FFFF] + SYLLABLES + strict * 3
        self.clinging = MARKS + [0x1161, 0x11A8] + [pair[1] for pair in making.pair]

    def text(self, most):
        chance = self.chance
        length = chance.choice([0, 1, 2, 3, 4, chance.randint(0, most)])
        choices = chance.choice([self.codes, self.codes, self.clinging, self.codes + self.clinging * 3])
        text = [chance.choice(choices) for place in range(length)]
        if text and chance.random() < 0.03:
            text[chance.randrange(length)] = chance.choice(WRONG)
        if chance.random() < 0.01:
            return text + [0x61] * 101
        return text

    def number(self, *right):
        if self.chance.random() < 0.02:
            return self.chance.choice([-1, 0, 4, 5, 10 ** 18])
        return self.chance.choice(right)

    def tables_rows(self):
        rows = self.making.rows()
        turn = self.chance.random()
        if turn < 0.5:
            return rows
        if turn < 0.6:
            return [[]] * 6
        for count in range(self.chance.choice([1, 1, 2])):
            row = self.chance.choice([row for row in rows if row])
            near = [row[0] - 1, row[0] + 1, 0, 1, 2, 3, 65536, 0xAC00, 0x1100] + row + WRONG[:4]
            row[self.chance.randrange(len(row))] = self.chance.choice(near)
        return rows

    def lengths(self):
        lengths = [self.chance.randint(0, 4) for turn in range(self.chance.randint(0, 12))]
        x = [self.chance.choice(self.codes) for turn in range(sum(lengths))]
        if self.chance.random() < 0.05:
            x = self.text(30)
        if lengths and self.chance.random() < 0.05:
            lengths[0] -= self.chance.randint(1, 3)
        if x and self.chance.random() < 0.05:
            x[self.chance.randrange(len(x))] = self.chance.choice(WRONG)
        return lengths, x

    def call(self):
        number = self.chance.choice([1, 2, 3, 4, 5, 6, 6, 7, 7, 7, 7, 7, 7, 8, 9, 9, 10, 10, 11, 11, 12, 12, 12])
        if number == 1:
            return (1, [], self.tables_rows())
        if number in (2, 3):
            return (number, [self.number(0, 1, 2, 3)], [self.text(30)])
        if number in (4, 5):
            x = self.text(12)
            y = self.text(12) if number == 5 or self.chance.random() < 0.5 else self.turned(x)
            return (number, [self.number(0, 2) if number == 4 else self.number(0, 1, 2, 3)], [x, y])
        if number == 6:
            return (6, [self.number(0, 1, 2, 3)], [])
        if number == 7:
            return (7, [], [self.chance.choice([self.text(40), [0x61, 0x300] * 40])])
        if number == 8:
            return (8, [], [])
        return self.call_of_keys(number)

    def turned(self, x):
        """A text that may be held for the same, or nearly so."""
        tables = self.making.tables()
        if not all(0 <= code < 0x110000 for code in x):
            return x
        return tables.form(self.chance.randrange(4), x)

    def call_of_keys(self, number):
        level, back = self.number(1, 2, 3), self.number(0, 1)
        if number == 9:
            return (9, [level, back], [self.text(30)])
        if number == 10:
            x = self.text(12)
            return (10, [level, back], [x, self.turned(x) if self.chance.random() < 0.5 else self.text(12)])
        if number == 11:
            return (11, [level, back], list(self.lengths()))
        x = [self.chance.choice(self.codes) for turn in range(self.chance.randint(0, 12))]
        if self.chance.random() < 0.4:
            return (12, [level], [x, self.text(4)])
        start = self.chance.randint(0, len(x))
        return (12, [level], [x, self.turned(x[start:start + self.chance.randint(1, 4)])])


class Mixed(unittest.TestCase):
    def held_against(self, calls):
        asked = []
        for number, numbers, rows in calls:
            asked += call_of([number] + numbers, *rows)
        told = cut(answers(asked))
        plain = PlainDesk()
        self.assertEqual(len(told), len(calls))
        for place, (number, numbers, rows) in enumerate(calls):
            wanted = plain.answer(number, numbers, rows)
            self.assertEqual(told[place], wanted, (place, calls[:place + 1]))
        return told

    def test_tables_by_chance_are_right(self):
        for seed in range(60):
            making = Making(random.Random(seed))
            told = self.held_against([(1, [], making.rows())])
            self.assertEqual(told, [[0, 0, 0]], seed)

    def test_tables_with_numbers_put_in_by_chance(self):
        seen = set()
        for seed in range(60):
            chance = random.Random(seed)
            asking = Asking(chance, Making(chance))
            told = self.held_against([(1, [], asking.tables_rows()) for turn in range(40)])
            seen |= {answer[1] if len(answer) > 1 else answer[0] for answer in told}
        self.assertEqual(seen, {-1, 0, 1, 2, 3, 4, 5, 6, 7})

    def test_calls_by_chance(self):
        seen = set()
        for seed in range(100):
            chance = random.Random(seed)
            asking = Asking(chance, Making(chance))
            calls = [(1, [], asking.making.rows())] + [asking.call() for turn in range(99)]
            told = self.held_against(calls)
            seen |= {(call[0], answer[0]) for call, answer in zip(calls, told)}
        refused = {1: [-1], 2: [-1, -3], 3: [-1, -3], 4: [-1, -3], 5: [-1, -3], 6: [-1],
                   7: [-1, -2, -3, -4, -5, -6], 8: [-2, -4, -5], 9: [-1, -3], 10: [-1, -3], 11: [-1, -3],
                   12: [-1, -3, -4]}
        for number in refused:
            self.assertEqual({answer for call, answer in seen if call == number}, {0, *refused[number]}, number)

    def test_pieces_by_chance(self):
        whole = 0
        for seed in range(150):
            chance = random.Random(seed)
            asking = Asking(chance, Making(chance))
            form = chance.randrange(4)
            pieces, come = [], []
            while len(come) < 60:
                pieces.append([chance.choice(asking.codes) for turn in range(chance.choice([0, 1, 1, 2, 3, 20]))])
                come += pieces[-1]
            calls = [(1, [], asking.making.rows()), (6, [form], [])] + [(7, [], [piece]) for piece in pieces]
            told = self.held_against(calls + [(8, [], []), (2, [form], [come])])
            if told[-2][0] == 0:
                whole += 1
                self.assertEqual([code for answer in told[2:-1] for code in answer[1:]], told[-1][1:])
        self.assertGreater(whole, 60)


if __name__ == "__main__":
    unittest.main()
