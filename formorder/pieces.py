"""A text that comes in pieces, and what of its form can be put out before all of it has come."""

from formorder.codes import is_tail, is_vowel
from formorder.forms import first_part, form_of, is_loose_form, is_together_form
from formorder.refusals import EndHasCome, TooManyCome, TooMuchStands

MOST_STANDING = 16
MOST_COME = 200


class Pieces:
    def __init__(self, form):
        self.form = form
        self.come = []
        # How many of what has come are settled: also where the last safe one stands.
        self.settled = 0
        # How many code points have been put out.
        self.told = 0
        self.too_much = False
        self.ended = False


def check_going_on(pieces):
    if pieces.ended:
        raise EndHasCome()
    if pieces.too_much:
        raise TooMuchStands()


def put_piece(tables, pieces, x):
    if len(pieces.come) + len(x) > MOST_COME:
        raise TooManyCome()
    for code in x:
        take_code(tables, pieces, code)
    return put_out(tables, pieces, pieces.settled)


def end_pieces(tables, pieces):
    pieces.ended = True
    return put_out(tables, pieces, len(pieces.come))


def take_code(tables, pieces, code):
    if is_safe(tables, pieces.form, code):
        pieces.settled = len(pieces.come)
    pieces.come.append(code)
    if len(pieces.come) - pieces.settled > MOST_STANDING:
        pieces.too_much = True
        raise TooMuchStands()


# Nothing goes past a safe code point: what was put out before is the beginning of what is told now.
def put_out(tables, pieces, count):
    codes = form_of(tables, pieces.form, pieces.come[:count])
    fresh = codes[pieces.told:]
    pieces.told = len(codes)
    return fresh


def is_safe(tables, form, code):
    first = first_part(tables, code, is_loose_form(form))
    if tables.class_of(first) != 0:
        return False
    if not is_together_form(form):
        return True
    return first not in tables.seconds and not is_vowel(first) and not is_tail(first)
