"""Forms of many texts held against Python's own normal forms, by tables made of the same code points."""

import random
import unicodedata
import unittest

from formorder.desk import answers
from helper import cut, form, tables

NAMES = ("NFD", "NFC", "NFKD", "NFKC")
# Of each alphabet the code points that don't come apart strictly: what is made of them is found below.
LATIN = [0x73, 0x74, 0x17F, 0x41, 0x301, 0x304, 0x307, 0x308, 0x30A, 0x323, 0x327, 0x328]
GREEK = [0x20, 0xA8, 0x1FBF, 0x37A, 0x3B1, 0x3B9, 0x3D2, 0x300, 0x301, 0x308, 0x313, 0x342, 0x345]
MIXED = [0x915, 0x93C, 0x9C7, 0x9BE, 0x9D7, 0xDD9, 0xDCF, 0xDCA, 0xF71, 0xF72, 0x304B, 0x3099, 0x5D1, 0x5BC, 0x338]
SYLLABLES = [0x1100, 0x1112, 0x1161, 0x1175, 0x11A7, 0x11A8, 0x11C2, 0xAC00, 0xAC01, 0xD788, 0xD7A3]


def codes(text):
    return [ord(sign) for sign in text]


def signs(numbers):
    return "".join(chr(number) for number in numbers)


def normal(name, numbers):
    return codes(unicodedata.normalize(name, signs(numbers)))


def looked_through():
    return list(range(0xAC00)) + list(range(0xF900, 0x10000))


def decs_of(atoms):
    """By code and kind the rows of all code points that are made of these, none of more than four."""
    rows = {}
    for code in looked_through():
        strict, loose = normal("NFD", [code]), normal("NFKD", [code])
        if strict != [code] and set(strict) <= atoms:
            rows[(code, 0)] = strict
        if loose != strict and set(loose) <= atoms and (strict == [code] or set(strict) <= atoms) and len(loose) < 5:
            rows[(code, 1)] = loose
    return rows


def pairs_of(rows):
    pairs = []
    for code, kind in sorted(rows):
        if kind == 0 and normal("NFC", [code]) == [code]:
            step = [int(part, 16) for part in unicodedata.decomposition(chr(code)).split()]
            pairs.append((step[0], step[1], code))
    return sorted(pairs)


def unicode_tables(chosen):
    """The tables of an alphabet, and all its code points."""
    atoms = set(chosen) | set(normal("NFKD", chosen))
    rows = decs_of(atoms)
    pool, dec = [], []
    for code, kind in sorted(rows, key=lambda known: -len(rows[known])):
        row = rows[(code, kind)]
        at = next((k for k in range(len(pool)) if pool[k:k + len(row)] == row), len(pool))
        if at == len(pool):
            pool += row
        dec.append((code, kind, at, len(row)))
    every = sorted(atoms | {code for code, kind in rows})
    cls = [(code, code, unicodedata.combining(chr(code))) for code in every if unicodedata.combining(chr(code))]
    return tables(pool=pool, dec=sorted(dec), pair=pairs_of(rows), cls=cls), every


class AgainstPython(unittest.TestCase):
    def held_against(self, call, texts):
        asked = list(call)
        for text in texts:
            for number in range(4):
                asked += form(number, text)
        told = cut(answers(asked))
        self.assertEqual(told[0], [0, 0, 0])
        place = 1
        for text in texts:
            for name in NAMES:
                self.assertEqual(told[place], [0] + normal(name, text), (name, [hex(code) for code in text]))
                place += 1

    def random_texts(self, alphabet):
        chance = random.Random(1)
        call, every = unicode_tables(alphabet)
        marks = [code for code in every if unicodedata.combining(chr(code))]
        for batch in range(40):
            texts = []
            for count in range(20):
                length = chance.randrange(1, 14)
                texts.append([chance.choice(chance.choice([every, alphabet, marks, SYLLABLES]))
                              for place in range(length)])
            self.held_against(call, texts)

    def test_random_texts_of_latin(self):
        self.random_texts(LATIN)

    def test_random_texts_of_greek(self):
        self.random_texts(GREEK)

    def test_random_texts_of_others(self):
        self.random_texts(MIXED)

    def test_all_syllables(self):
        syllables = list(range(0xAC00, 0xD7A4))
        for at in range(0, len(syllables), 33):
            part = syllables[at:at + 33]
            self.held_against(tables(), [part, normal("NFD", part)])


if __name__ == "__main__":
    unittest.main()
