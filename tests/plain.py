"""The document's words written out plainly and slowly: what the program's answers are held against.

Nothing of the package is used here, and wherever there is a choice, it's made otherwise than there.
"""

LEAD, VOWEL, TAIL, SYLLABLE = (0x1100, 0x1112), (0x1161, 0x1175), (0x11A8, 0x11C2), (0xAC00, 0xD7A3)
SIZES = dict(pool=1, dec=4, pair=3, cls=3, key=6, weight=3)
MOST = 4294967295


def within(code, ends):
    return ends[0] <= code <= ends[1]


def code_point(number):
    return within(number, (0, 0x10FFFF)) and not within(number, (0xD800, 0xDFFF))


class PlainTables:
    def __init__(self, rows):
        for name, row in zip(SIZES, rows):
            size = SIZES[name]
            records = [tuple(row[at:at + size]) for at in range(0, len(row), size)]
            setattr(self, name, records)
        self.pool = list(rows[0])
        # Looked up once each, since all that's slow here asks these two over and over.
        self.classes, self.known_rows = {}, {}

    def class_of(self, code):
        if code not in self.classes:
            self.classes[code] = next((cls for first, last, cls in self.cls if first <= code <= last), 0)
        return self.classes[code]

    def row(self, code, kind):
        if (code, kind) not in self.known_rows:
            rows = [self.pool[at:at + n] for c, k, at, n in self.dec if (c, k) == (code, kind)]
            self.known_rows[(code, kind)] = rows[0] if rows else None
        return self.known_rows[(code, kind)]

    def parts(self, code, loosely):
        if loosely and self.row(code, 1):
            return self.row(code, 1)
        if self.row(code, 0):
            return self.row(code, 0)
        if within(code, SYLLABLE):
            lv, k = divmod(code - 0xAC00, 28)
            return [0x1100 + lv // 21, 0x1161 + lv % 21] + ([0x11A7 + k] if k else [])
        return [code]

    def ordered(self, codes):
        codes = list(codes)
        for turn in range(len(codes)):
            for k in range(len(codes) - 1):
                if self.class_of(codes[k]) > self.class_of(codes[k + 1]) > 0:
                    codes[k], codes[k + 1] = codes[k + 1], codes[k]
        return codes

    def apart(self, text, loosely):
        return self.ordered([part for code in text for part in self.parts(code, loosely)])

    def pair_of(self, a, b):
        if within(a, LEAD) and within(b, VOWEL):
            return ((a - 0x1100) * 21 + b - 0x1161) * 28 + 0xAC00
        if within(a, SYLLABLE) and (a - 0xAC00) % 28 == 0 and within(b, TAIL):
            return a + b - 0x11A7
        return next((c for first, second, c in self.pair if (first, second) == (a, b)), None)

    def form(self, form, text):
        codes = self.apart(text, form > 1)
        if form in (0, 2):
            return codes
        # What's been put out: all up to the base, the base, and those behind it.
        before, base, behind = [], None, []
        for c in codes:
            near = not behind or 0 < self.class_of(behind[-1]) < self.class_of(c)
            whole = self.pair_of(base, c) if base is not None and near else None
            if whole is not None:
                base = whole
            elif self.class_of(c) == 0:
                before, base, behind = before + ([] if base is None else [base]) + behind, c, []
            else:
                behind = behind + [c]
        return before + ([] if base is None else [base]) + behind

    def safe(self, form, code):
        first = self.parts(code, form > 1)[0]
        if self.class_of(first):
            return False
        seconds = [b for a, b, c in self.pair]
        return form in (0, 2) or not (first in seconds or within(first, VOWEL) or within(first, TAIL))

    def weights(self, text):
        left, weights = self.apart(text, False), []
        while left:
            fitting = [record for record in self.key if list(record[3:3 + record[0]]) == left[:record[0]]]
            if fitting:
                n, at, count = max(fitting)[:3]
                weights += self.weight[at:at + count]
            else:
                n, c = 1, left[0]
                weights += [(0xFB40 + c // 32768, 32, 2), (c % 32768 + 32768, 0, 0)]
            left = left[n:]
        return weights

    def text_key(self, level, back, text):
        levels = [[number for number in row if number] for row in zip(*self.weights(text))] or [[], [], []]
        if back:
            levels[1].reverse()
        found = levels[0]
        for number in range(1, level):
            found = found + [1] + levels[number]
        return found

    # The rules. Each answers whether the record of this number keeps to it.
    def broken(self):
        rows = (self.pool, self.cls, self.dec, self.dec, self.pair, self.key, self.weight)
        for rule in range(7):
            for place in range(len(rows[rule])):
                holds = (self.rule1, self.rule2, self.rule3, self.rule4, self.rule5, self.rule6, self.rule7)[rule]
                if not holds(place):
                    return [rule + 1, place]
        return [0, 0]

    def rule1(self, place):
        return code_point(self.pool[place]) and not within(self.pool[place], SYLLABLE)

    def rule2(self, place):
        first, last, cls = self.cls[place]
        apart = [last < low or high < first for low, high in (LEAD, VOWEL, TAIL, SYLLABLE)]
        behind = place == 0 or first > self.cls[place - 1][1]
        return code_point(first) and code_point(last) and first <= last and 1 <= cls <= 254 and behind and all(apart)

    def rule3(self, place):
        code, kind, at, n = self.dec[place]
        kept = any(within(code, ends) for ends in (LEAD, VOWEL, TAIL, SYLLABLE))
        rising = place == 0 or self.dec[place - 1][:2] < (code, kind)
        return (code_point(code) and not kept and kind in (0, 1) and rising and 1 <= n <= 4
                and at + n <= len(self.pool))

    def rule4(self, place):
        code, kind, at, n = self.dec[place]
        row = self.pool[at:at + n]
        has_strict = any(self.row(part, 0) for part in row)
        has_loose = any(self.row(part, 1) for part in row)
        if has_strict or (kind == 1 and has_loose):
            return False
        if kind == 0 and has_loose != (self.row(code, 1) is not None):
            return False
        if kind == 1 and self.row(code, 0) and row != self.apart(self.row(code, 0), True):
            return False
        own = self.class_of(code)
        if own and any(self.class_of(part) != own for part in row):
            return False
        return self.ordered(row) == row

    def rule5(self, place):
        a, b, c = self.pair[place]
        if any(not code_point(code) or within(code, SYLLABLE) for code in (a, b, c)):
            return False
        if place and self.pair[place - 1][:2] >= (a, b):
            return False
        if within(a, LEAD) and within(b, VOWEL):
            return False
        if self.class_of(a) or self.class_of(c) or self.class_of((self.row(a, 0) or [a])[0]):
            return False
        return self.row(c, 0) == self.ordered(self.parts(a, False) + self.parts(b, False))

    def rule6(self, place):
        n, at, count = self.key[place][:3]
        codes = self.key[place][3:]
        if n not in (1, 2, 3) or any(codes[n:]):
            return False
        if any(not code_point(code) or within(code, SYLLABLE) or self.row(code, 0) for code in codes[:n]):
            return False
        if place and self.key[place - 1][3:] >= codes:
            return False
        return at + count <= len(self.weight) and count <= 4

    def rule7(self, place):
        p, s, u = self.weight[place]
        return 1 not in (p, s, u) and (p == 0 or s != 0) and (s == 0 or u != 0)


class PlainDesk:
    """Answers a call that's written (number, whole numbers, rows)."""

    def __init__(self):
        self.tables = PlainTables([[]] * 6)
        self.pieces = None

    def answer(self, number, numbers, rows):
        if number == 1:
            return self.take_tables(rows)
        named = (self.form, self.is_form, self.same, self.join, self.open_pieces, self.put, self.end, self.key,
                 self.compare, self.order, self.find)
        told = named[number - 2](*numbers, *rows)
        return [told] if isinstance(told, int) else [0] + told

    def refused(self, wrong, texts, most=100):
        if wrong or any(len(text) > most for text in texts):
            return -1
        return -3 if any(not code_point(code) for text in texts for code in text) else 0

    def take_tables(self, rows):
        for name, row in zip(SIZES, rows):
            most = 65535 if name == "weight" else MOST
            if len(row) % SIZES[name] or len(row) // SIZES[name] > 128 or any(not 0 <= k <= most for k in row):
                return [-1]
        taken = PlainTables(rows)
        broken = taken.broken()
        if broken == [0, 0]:
            self.tables, self.pieces = taken, None
        return [0] + broken

    def form(self, form, x):
        return self.refused(form not in range(4), [x]) or self.tables.form(form, x)

    def is_form(self, form, x):
        return self.refused(form not in range(4), [x]) or [int(self.tables.form(form, x) == x)]

    def same(self, form, x, y):
        refused = self.refused(form not in (0, 2), [x, y])
        return refused or [int(self.tables.apart(x, form == 2) == self.tables.apart(y, form == 2))]

    def join(self, form, x, y):
        return self.refused(form not in range(4), [x, y]) or self.tables.form(form, x + y)

    def open_pieces(self, form):
        if form not in range(4):
            return -1
        self.pieces = dict(form=form, come=[], out=[], state=0)
        return []

    def too_much(self, form, come):
        for count in range(1, len(come) + 1):
            standing = 0
            for code in reversed(come[:count]):
                standing += 1
                if self.tables.safe(form, code):
                    break
            if standing > 16:
                return True
        return False

    def put_out(self, come):
        whole = self.tables.form(self.pieces["form"], come)
        before = self.pieces["out"]
        assert whole[:len(before)] == before, "what was put out before isn't the form's beginning"
        self.pieces["out"] = whole
        return whole[len(before):]

    def put(self, x):
        if self.pieces is None:
            return -2
        if len(x) > 100:
            return -1
        if self.pieces["state"]:
            return self.pieces["state"]
        if any(not code_point(code) for code in x):
            return -3
        come, form = self.pieces["come"] + x, self.pieces["form"]
        if len(come) > 200:
            return -6
        if self.too_much(form, come):
            self.pieces["state"] = -4
            return -4
        self.pieces["come"] = come
        safe = [place for place in range(len(come)) if self.tables.safe(form, come[place])]
        return self.put_out(come[:max(safe, default=0)])

    def end(self):
        if self.pieces is None:
            return -2
        if self.pieces["state"]:
            return self.pieces["state"]
        self.pieces["state"] = -5
        return self.put_out(self.pieces["come"])

    def key(self, level, back, x):
        refused = self.refused(level not in (1, 2, 3) or back not in (0, 1), [x])
        return refused or self.tables.text_key(level, back, x)

    def compared(self, one, two):
        for a, b in zip(one, two):
            if a != b:
                return 1 if a < b else 3
        return 2 + (len(one) > len(two)) - (len(one) < len(two))

    def compare(self, level, back, x, y):
        refused = self.refused(level not in (1, 2, 3) or back not in (0, 1), [x, y])
        return refused or [self.compared(*[self.tables.text_key(level, back, text) for text in (x, y)])]

    def order(self, level, back, lengths, x):
        wrong = level not in (1, 2, 3) or back not in (0, 1) or len(lengths) > 100 or min(lengths, default=0) < 0
        refused = self.refused(wrong or sum(lengths) != len(x), [x])
        if refused:
            return refused
        cuts = [sum(lengths[:number]) for number in range(len(lengths) + 1)]
        known = [self.tables.text_key(level, back, x[cuts[k]:cuts[k + 1]]) for k in range(len(lengths))]
        numbers = []
        for number in range(len(lengths)):
            at = len(numbers)
            while at > 0 and self.compared(known[numbers[at - 1]], known[number]) == 3:
                at -= 1
            numbers.insert(at, number)
        return numbers

    def find(self, level, x, y):
        refused = self.refused(level not in (1, 2, 3) or not y, [x, y], most=30)
        if refused:
            return refused
        wanted = self.tables.text_key(level, 0, y)
        if set(wanted) <= {1}:
            return -4
        ends = [0] + [i for i in range(1, len(x)) if not self.tables.class_of(self.tables.parts(x[i], False)[0])]
        ends += [len(x)]
        found = [(i, j) for i in ends for j in ends if i < j and self.tables.text_key(level, 0, x[i:j]) == wanted]
        return [1, min(found)[0], min(found)[1] - min(found)[0]] if found else [0]
