"""The seven rules of right tables."""

from formorder.codes import is_code_point, is_lead, is_syllable, is_vowel, touches_syllables
from formorder.forms import apart, first_part, put_in_order
from formorder.tables import LOOSE, STRICT


def first_broken(tables):
    checks = (
        (tables.pool, pool_holds),
        (tables.marks, marks_hold),
        (tables.decs, dec_holds),
        (tables.decs, dec_row_holds),
        (tables.pairs, pair_holds),
        (tables.weighed, key_holds),
        (tables.weights, weight_holds),
    )
    for rule, check in enumerate(checks, start=1):
        place = first_wrong(tables, check[0], check[1])
        if place is not None:
            return [rule, place]
    return [0, 0]


def first_wrong(tables, records, holds):
    for place in range(len(records)):
        if not holds(tables, place):
            return place
    return None


def is_plain_code(number):
    return is_code_point(number) and not is_syllable(number)


def rises(records, place):
    return place == 0 or records[place - 1].rank < records[place].rank


def pool_holds(tables, place):
    return is_plain_code(tables.pool[place])


def marks_hold(tables, place):
    marks = tables.marks[place]
    if not is_code_point(marks.first) or not is_code_point(marks.last) or marks.first > marks.last:
        return False
    if not 1 <= marks.cls <= 254:
        return False
    if place > 0 and marks.first <= tables.marks[place - 1].last:
        return False
    return not touches_syllables(marks.first, marks.last)


def dec_holds(tables, place):
    dec = tables.decs[place]
    if not is_code_point(dec.code) or touches_syllables(dec.code, dec.code):
        return False
    if dec.kind not in (STRICT, LOOSE) or not rises(tables.decs, place):
        return False
    return 1 <= dec.n <= 4 and dec.at + dec.n <= len(tables.pool)


def dec_row_holds(tables, place):
    dec = tables.decs[place]
    if dec.kind == STRICT and not strict_row_holds(tables, dec):
        return False
    if dec.kind == LOOSE and not loose_row_holds(tables, dec):
        return False
    return classes_agree(tables, dec) and is_in_order(tables, dec.row)


def strict_row_holds(tables, dec):
    if any([code in tables.strict for code in dec.row]):
        return False
    needs_loose = any([code in tables.loose for code in dec.row])
    return needs_loose == (dec.code in tables.loose)


def loose_row_holds(tables, dec):
    if any([code in tables.strict or code in tables.loose for code in dec.row]):
        return False
    if dec.code not in tables.strict:
        return True
    return dec.row == put_in_order(tables, apart(tables, tables.strict[dec.code], True))


def classes_agree(tables, dec):
    own = tables.class_of(dec.code)
    return own == 0 or all([tables.class_of(code) == own for code in dec.row])


def is_in_order(tables, row):
    classes = [tables.class_of(code) for code in row]
    return not any([classes[k] > classes[k + 1] > 0 for k in range(len(row) - 1)])


def pair_holds(tables, place):
    pair = tables.pairs[place]
    if not all([is_plain_code(code) for code in (pair.a, pair.b, pair.c)]):
        return False
    if not rises(tables.pairs, place) or (is_lead(pair.a) and is_vowel(pair.b)):
        return False
    if tables.class_of(pair.a) != 0 or tables.class_of(pair.c) != 0:
        return False
    if tables.class_of(first_part(tables, pair.a, False)) != 0:
        return False
    if pair.c not in tables.strict:
        return False
    return tables.strict[pair.c] == put_in_order(tables, apart(tables, [pair.a, pair.b], False))


def key_holds(tables, place):
    key = tables.weighed[place]
    if not 1 <= key.n <= 3 or not rises(tables.weighed, place):
        return False
    if not all([is_plain_code(code) and code not in tables.strict for code in key.codes[:key.n]]):
        return False
    if any([code != 0 for code in key.codes[key.n:]]):
        return False
    return key.count <= 4 and key.at + key.count <= len(tables.weights)


def weight_holds(tables, place):
    weight = tables.weights[place]
    # 1 stands between the levels of a key, so no weight may be 1.
    if 1 in (weight.p, weight.s, weight.u):
        return False
    if weight.p != 0 and weight.s == 0:
        return False
    return weight.s == 0 or weight.u != 0
