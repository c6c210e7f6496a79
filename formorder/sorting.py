"""Which text comes first, by their keys."""

from formorder.weighing import key_of

BEFORE = 1
ALIKE = 2
BEHIND = 3


def compare(tables, level, back, x, y):
    key_of_x = key_of(tables, level, back, x)
    key_of_y = key_of(tables, level, back, y)
    if key_of_x < key_of_y:
        return BEFORE
    return ALIKE if key_of_x == key_of_y else BEHIND


# Sorting is stable, so texts with equal keys stay as they stand.
def numbers_by_key(tables, level, back, texts):
    ranks = [key_of(tables, level, back, text) for text in texts]
    return sorted(range(len(texts)), key=lambda number: ranks[number])


def cut_text(lengths, x):
    texts = []
    at = 0
    for length in lengths:
        texts.append(x[at:at + length])
        at += length
    return texts
