"""Forms 0 to 3 of a text: apart strictly or loosely, put in order, together."""

from formorder.codes import is_syllable, syllable_of, syllable_parts


def is_loose_form(form):
    return form >= 2


def is_together_form(form):
    return form % 2 == 1


def form_of(tables, form, text):
    codes = put_in_order(tables, apart(tables, text, is_loose_form(form)))
    if is_together_form(form):
        return together(tables, codes)
    return codes


def apart(tables, text, loosely):
    codes = []
    for code in text:
        codes.extend(parts_of(tables, code, loosely))
    return codes


# Once is enough: in right tables no code point of a row comes apart further.
def parts_of(tables, code, loosely):
    if loosely and code in tables.loose:
        return tables.loose[code]
    if code in tables.strict:
        return tables.strict[code]
    if is_syllable(code):
        return syllable_parts(code)
    return [code]


def first_part(tables, code, loosely):
    return parts_of(tables, code, loosely)[0]


def put_in_order(tables, codes):
    ordered = []
    stretch = []
    for code in codes:
        if tables.class_of(code) > 0:
            stretch.append(code)
        else:
            ordered.extend(sorted(stretch, key=tables.class_of))
            ordered.append(code)
            stretch = []
    return ordered + sorted(stretch, key=tables.class_of)


def together(tables, codes):
    out = []
    base = None
    for code in codes:
        whole = None
        if base is not None and reaches_base(tables, out, base, code):
            whole = whole_of(tables, out[base], code)
        if whole is not None:
            out[base] = whole
        else:
            if tables.class_of(code) == 0:
                base = len(out)
            out.append(code)
    return out


def reaches_base(tables, out, base, code):
    if base == len(out) - 1:
        return True
    return 0 < tables.class_of(out[-1]) < tables.class_of(code)


# The order of the two is free: no pair of right tables is a syllable's beginning or goes into one.
def whole_of(tables, first, second):
    if (first, second) in tables.wholes:
        return tables.wholes[(first, second)]
    return syllable_of(first, second)
