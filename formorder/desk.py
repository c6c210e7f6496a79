"""The desk: calls on one object, answered one behind another."""

from formorder.checks import check_apart_form, check_back, check_codes, check_form, check_lengths, check_level
from formorder.checks import check_rows, check_search, check_sizes, check_texts
from formorder.forms import form_of
from formorder.pieces import Pieces, check_going_on, end_pieces, put_piece
from formorder.reader import CALL_CMP, CALL_END, CALL_FORM, CALL_IS, CALL_JOIN, CALL_KEY, CALL_OPEN, CALL_ORDER
from formorder.reader import CALL_PUT, CALL_SAME, CALL_TABLES, Reader
from formorder.refusals import EndHasCome, NoPieces, NothingToFind, TooManyCome, TooMuchStands
from formorder.refusals import WrongArgument, WrongCodePoint
from formorder.rules import first_broken
from formorder.search import find_stretch
from formorder.sorting import compare, cut_text, numbers_by_key
from formorder.tables import Tables, empty_tables
from formorder.weighing import key_of


class Desk:
    def __init__(self):
        self.tables = empty_tables()
        self.pieces = None


def answers(calls):
    desk = Desk()
    reader = Reader(calls)
    told = []
    while reader.has_more():
        answer = answer_call(desk, reader.take_call())
        told.append(len(answer))
        told.extend(answer)
    return told


# Every check of a call stands ahead of its first change, so a refusal leaves the desk as it was.
# Only a put by which too much stands is seen in the midst of it: those pieces are of no use then.
def answer_call(desk, call):
    try:
        return [0] + answer_taken(desk, call)
    except WrongArgument:
        return [-1]
    except NoPieces:
        return [-2]
    except WrongCodePoint:
        return [-3]
    except TooMuchStands:
        return [-4]
    except NothingToFind:
        return [-4]
    except EndHasCome:
        return [-5]
    except TooManyCome:
        return [-6]


def answer_taken(desk, call):
    if call.number == CALL_TABLES:
        return answer_tables(desk, call.rows)
    if call.number in (CALL_FORM, CALL_IS, CALL_SAME, CALL_JOIN):
        return answer_of_forms(desk, call)
    if call.number in (CALL_OPEN, CALL_PUT, CALL_END):
        return answer_of_pieces(desk, call)
    return answer_of_keys(desk, call)


def answer_of_forms(desk, call):
    form = call.arguments[0]
    if call.number == CALL_FORM:
        return answer_form(desk, form, call.rows[0])
    if call.number == CALL_IS:
        return answer_is(desk, form, call.rows[0])
    if call.number == CALL_SAME:
        return answer_same(desk, form, call.rows[0], call.rows[1])
    return answer_join(desk, form, call.rows[0], call.rows[1])


def answer_of_pieces(desk, call):
    if call.number == CALL_OPEN:
        return answer_open(desk, call.arguments[0])
    if call.number == CALL_PUT:
        return answer_put(desk, call.rows[0])
    return answer_end(desk)


def answer_of_keys(desk, call):
    level = call.arguments[0]
    if call.number == CALL_KEY:
        return answer_key(desk, level, call.arguments[1], call.rows[0])
    if call.number == CALL_CMP:
        return answer_cmp(desk, level, call.arguments[1], call.rows[0], call.rows[1])
    if call.number == CALL_ORDER:
        return answer_order(desk, level, call.arguments[1], call.rows[0], call.rows[1])
    return answer_find(desk, level, call.rows[0], call.rows[1])


def answer_tables(desk, rows):
    check_rows(rows)
    tables = Tables(rows)
    broken = first_broken(tables)
    if broken == [0, 0]:
        desk.tables = tables
        desk.pieces = None
    return broken


def answer_form(desk, form, x):
    check_form(form)
    check_texts([x])
    return form_of(desk.tables, form, x)


def answer_is(desk, form, x):
    check_form(form)
    check_texts([x])
    return [1 if form_of(desk.tables, form, x) == x else 0]


def answer_same(desk, form, x, y):
    check_apart_form(form)
    check_texts([x, y])
    return [1 if form_of(desk.tables, form, x) == form_of(desk.tables, form, y) else 0]


def answer_join(desk, form, x, y):
    check_form(form)
    check_texts([x, y])
    return form_of(desk.tables, form, x + y)


def answer_open(desk, form):
    check_form(form)
    desk.pieces = Pieces(form)
    return []


# What the pieces refuse by themselves counts behind a text that is too long and before its wrong numbers.
def answer_put(desk, x):
    if desk.pieces is None:
        raise NoPieces()
    check_sizes([x])
    check_going_on(desk.pieces)
    check_codes([x])
    return put_piece(desk.tables, desk.pieces, x)


def answer_end(desk):
    if desk.pieces is None:
        raise NoPieces()
    check_going_on(desk.pieces)
    return end_pieces(desk.tables, desk.pieces)


def answer_key(desk, level, back, x):
    check_level(level)
    check_back(back)
    check_texts([x])
    return key_of(desk.tables, level, back, x)


def answer_cmp(desk, level, back, x, y):
    check_level(level)
    check_back(back)
    check_texts([x, y])
    return [compare(desk.tables, level, back, x, y)]


def answer_order(desk, level, back, lengths, x):
    check_level(level)
    check_back(back)
    check_lengths(lengths, x)
    check_texts([x])
    return numbers_by_key(desk.tables, level, back, cut_text(lengths, x))


def answer_find(desk, level, x, y):
    check_level(level)
    check_search(x, y)
    check_codes([x, y])
    return find_stretch(desk.tables, level, x, y)
