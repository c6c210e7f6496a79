"""What is refused ahead of a call's answer, as far as its own numbers tell."""

from formorder.codes import is_code_point
from formorder.refusals import WrongArgument, WrongCodePoint
from formorder.tables import RECORD_SIZES

MOST_IN_TEXT = 100
MOST_LENGTHS = 100
MOST_IN_SEARCH = 30
MOST_RECORDS = 128
# The greatest number of each row: pool, dec, pair, cls, key, weight.
GREATEST_NUMBERS = (4294967295, 4294967295, 4294967295, 4294967295, 4294967295, 65535)


def check_form(form):
    if not 0 <= form <= 3:
        raise WrongArgument()


def check_apart_form(form):
    if form not in (0, 2):
        raise WrongArgument()


def check_level(level):
    if not 1 <= level <= 3:
        raise WrongArgument()


def check_back(back):
    if back not in (0, 1):
        raise WrongArgument()


# All lengths are looked at before any number: a text that is too long counts before a wrong number of another.
def check_texts(texts):
    check_sizes(texts)
    check_codes(texts)


def check_sizes(texts):
    if any([len(text) > MOST_IN_TEXT for text in texts]):
        raise WrongArgument()


def check_codes(texts):
    for text in texts:
        if not all([is_code_point(number) for number in text]):
            raise WrongCodePoint()


def check_lengths(lengths, x):
    if len(lengths) > MOST_LENGTHS or any([length < 0 for length in lengths]):
        raise WrongArgument()
    if sum(lengths) != len(x):
        raise WrongArgument()


def check_search(x, y):
    if len(x) > MOST_IN_SEARCH or not 1 <= len(y) <= MOST_IN_SEARCH:
        raise WrongArgument()


def check_rows(rows):
    for row, size, greatest in zip(rows, RECORD_SIZES, GREATEST_NUMBERS):
        if len(row) % size != 0 or len(row) > MOST_RECORDS * size:
            raise WrongArgument()
        if not all([0 <= number <= greatest for number in row]):
            raise WrongArgument()
