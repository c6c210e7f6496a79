"""The desk: calls on one object, answered one behind another."""

from formorder.checks import WrongArgument, WrongCodePoint, check_apart_form, check_form, check_rows, check_texts
from formorder.forms import form_of
from formorder.pieces import Pieces
from formorder.reader import CALL_FORM, CALL_IS, CALL_JOIN, CALL_SAME, CALL_TABLES, Reader
from formorder.rules import first_broken
from formorder.tables import Tables, empty_tables


class Desk:
    def __init__(self):
        self.tables = empty_tables()
        self.pieces = None


def answers(calls):
    desk = Desk()
    reader = Reader(calls)
    told = []
    while reader.has_more():
        answer = answer_call(desk, reader.take_call())
        told.append(len(answer))
        told.extend(answer)
    return told


# Every check of a call stands ahead of its first change, so a refusal leaves the desk as it was.
def answer_call(desk, call):
    try:
        return [0] + answer_taken(desk, call)
    except WrongArgument:
        return [-1]
    except WrongCodePoint:
        return [-3]


def answer_taken(desk, call):
    if call.number == CALL_TABLES:
        return answer_tables(desk, call.rows)
    form = call.arguments[0]
    if call.number == CALL_FORM:
        return answer_form(desk, form, call.rows[0])
    if call.number == CALL_IS:
        return answer_is(desk, form, call.rows[0])
    if call.number == CALL_SAME:
        return answer_same(desk, form, call.rows[0], call.rows[1])
    if call.number == CALL_JOIN:
        return answer_join(desk, form, call.rows[0], call.rows[1])
    return answer_open(desk, form)


def answer_tables(desk, rows):
    check_rows(rows)
    tables = Tables(rows)
    broken = first_broken(tables)
    if broken == [0, 0]:
        desk.tables = tables
        desk.pieces = None
    return broken


def answer_form(desk, form, x):
    check_form(form)
    check_texts([x])
    return form_of(desk.tables, form, x)


def answer_is(desk, form, x):
    check_form(form)
    check_texts([x])
    return [1 if form_of(desk.tables, form, x) == x else 0]


def answer_same(desk, form, x, y):
    check_apart_form(form)
    check_texts([x, y])
    return [1 if form_of(desk.tables, form, x) == form_of(desk.tables, form, y) else 0]


def answer_join(desk, form, x, y):
    check_form(form)
    check_texts([x, y])
    return form_of(desk.tables, form, x + y)


def answer_open(desk, form):
    check_form(form)
    desk.pieces = Pieces(form)
    return []
