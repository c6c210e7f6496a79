"""Calls written as lists, answers cut into one list a call, and tables that several tests use."""

from formorder.desk import answers

ROWS = ("pool", "dec", "pair", "cls", "key", "weight")


def flat(records):
    numbers = []
    for record in records:
        if isinstance(record, int):
            numbers.append(record)
        else:
            numbers.extend(record)
    return numbers


def tables(pool=(), dec=(), pair=(), cls=(), key=(), weight=()):
    call = [1]
    for row in (pool, dec, pair, cls, key, weight):
        numbers = flat(row)
        call += [len(numbers)] + numbers
    return call


def call_of(numbers, *texts):
    """A call: its number with its whole numbers, then its rows."""
    call = list(numbers)
    for text in texts:
        call += [len(text)] + list(text)
    return call


def form(number, x):
    return call_of([2, number], x)


def is_form(number, x):
    return call_of([3, number], x)


def same(number, x, y):
    return call_of([4, number], x, y)


def join(number, x, y):
    return call_of([5, number], x, y)


def open_pieces(number):
    return call_of([6, number])


def put(x):
    return call_of([7], x)


def end():
    return call_of([8])


def key(level, back, x):
    return call_of([9, level, back], x)


def compare(level, back, x, y):
    return call_of([10, level, back], x, y)


def order(level, back, lengths, x):
    return call_of([11, level, back], lengths, x)


def find(level, x, y):
    return call_of([12, level], x, y)


def cut(told):
    one_each = []
    at = 0
    while at < len(told):
        one_each.append(told[at + 1:at + 1 + told[at]])
        at += 1 + told[at]
    return one_each


def ask(*calls):
    """The answers to these calls on one new object, a list each."""
    numbers = []
    for call in calls:
        numbers += call
    return cut(answers(numbers))


def ask_one(*calls):
    """The answer to the last of these calls."""
    return ask(*calls)[-1]


# Marks below (220) and above (230), a cedilla (202), and letters with one or two of them.
BELOW, ABOVE, CEDILLA, ABOVE_TOO = 0x323, 0x307, 0x327, 0x308
S, S_BELOW, S_ABOVE, S_BOTH = 0x73, 0x1E63, 0x1E61, 0x1E69
C, C_CEDILLA = 0x63, 0xE7
LONG_S, LONG_S_ABOVE = 0x17F, 0x1E9B
LIGATURE = 0xFB05
ANGSTROM, A, RING, A_RING = 0x212B, 0x41, 0x30A, 0xC5


def small():
    """Right tables: the code points above, strict and loose, with pairs."""
    return dict(
        pool=[S, BELOW, ABOVE, S, ABOVE, LONG_S, ABOVE, C, CEDILLA, A, RING, S, 0x74],
        dec=[
            (A_RING, 0, 9, 2),
            (C_CEDILLA, 0, 7, 2),
            (LONG_S, 1, 0, 1),
            (S_ABOVE, 0, 3, 2),
            (S_BELOW, 0, 0, 2),
            (S_BOTH, 0, 0, 3),
            (LONG_S_ABOVE, 0, 5, 2),
            (LONG_S_ABOVE, 1, 3, 2),
            (ANGSTROM, 0, 9, 2),
            (LIGATURE, 1, 11, 2),
        ],
        pair=[
            (A, RING, A_RING),
            (C, CEDILLA, C_CEDILLA),
            (S, ABOVE, S_ABOVE),
            (S, BELOW, S_BELOW),
            (LONG_S, ABOVE, LONG_S_ABOVE),
            (S_BELOW, ABOVE, S_BOTH),
        ],
        cls=[(ABOVE, ABOVE_TOO, 230), (RING, RING, 230), (BELOW, BELOW, 220), (CEDILLA, CEDILLA, 202)],
        key=[(1, 0, 1, A, 0, 0), (1, 1, 2, S, 0, 0), (2, 0, 4, S, ABOVE, 0), (3, 3, 0, S, ABOVE, BELOW)],
        weight=[(2, 2, 2), (65535, 32, 8), (0, 40, 2), (0, 0, 0)],
    )


def small_tables():
    return tables(**small())
