"""Tables: six rows of records, and what they tell of a code point."""

# How many numbers a record has: pool, dec, pair, cls, key, weight.
RECORD_SIZES = (1, 4, 3, 3, 6, 3)

STRICT = 0
LOOSE = 1


class Dec:
    def __init__(self, record, pool):
        self.code = record[0]
        self.kind = record[1]
        self.at = record[2]
        self.n = record[3]
        self.row = pool[self.at:self.at + self.n]
        self.rank = [self.code, self.kind]


class Pair:
    def __init__(self, record):
        self.a = record[0]
        self.b = record[1]
        self.c = record[2]
        self.rank = [self.a, self.b]


class Marks:
    def __init__(self, record):
        self.first = record[0]
        self.last = record[1]
        self.cls = record[2]


class Key:
    def __init__(self, record):
        self.n = record[0]
        self.at = record[1]
        self.count = record[2]
        self.codes = record[3:]
        self.rank = self.codes


class Weight:
    def __init__(self, record):
        self.p = record[0]
        self.s = record[1]
        self.u = record[2]


# Made of any rows of whole records, right or not: the rules are held against what is made here.
# So nothing is relied on before the rule that says it has been found to hold.
class Tables:
    def __init__(self, rows):
        self.pool = list(rows[0])
        self.decs = [Dec(record, self.pool) for record in records_of(rows[1], RECORD_SIZES[1])]
        self.pairs = [Pair(record) for record in records_of(rows[2], RECORD_SIZES[2])]
        self.marks = [Marks(record) for record in records_of(rows[3], RECORD_SIZES[3])]
        self.weighed = [Key(record) for record in records_of(rows[4], RECORD_SIZES[4])]
        self.weights = [Weight(record) for record in records_of(rows[5], RECORD_SIZES[5])]
        self.strict = rows_of_kind(self.decs, STRICT)
        self.loose = rows_of_kind(self.decs, LOOSE)
        self.wholes = wholes_by_parts(self.pairs)
        self.seconds = seconds_of_pairs(self.pairs)
        self.weights_by_codes = weights_by_keys(self.weighed, self.weights)

    # Ranges stand in rising order, so halving finds the one that may hold the code point.
    def class_of(self, code):
        low = 0
        high = len(self.marks)
        while low < high:
            middle = (low + high) // 2
            if self.marks[middle].last < code:
                low = middle + 1
            else:
                high = middle
        if low < len(self.marks) and self.marks[low].first <= code:
            return self.marks[low].cls
        return 0


def empty_tables():
    return Tables([[] for size in RECORD_SIZES])


def records_of(row, size):
    return [row[at:at + size] for at in range(0, len(row), size)]


def rows_of_kind(decs, kind):
    rows = {}
    for dec in decs:
        if dec.kind == kind:
            rows[dec.code] = dec.row
    return rows


def wholes_by_parts(pairs):
    wholes = {}
    for pair in pairs:
        wholes[(pair.a, pair.b)] = pair.c
    return wholes


def seconds_of_pairs(pairs):
    seconds = {}
    for pair in pairs:
        seconds[pair.b] = True
    return seconds


def weights_by_keys(weighed, weights):
    by_codes = {}
    for key in weighed:
        by_codes[tuple(key.codes[:key.n])] = weights[key.at:key.at + key.count]
    return by_codes
