"""The calls, as they are written in one list of whole numbers."""

CALL_TABLES = 1
CALL_FORM = 2
CALL_IS = 3
CALL_SAME = 4
CALL_JOIN = 5
CALL_OPEN = 6
CALL_PUT = 7
CALL_END = 8
CALL_KEY = 9
CALL_CMP = 10
CALL_ORDER = 11
CALL_FIND = 12

# Of each call, by its number, how many whole numbers and how many rows it has.
CALL_SHAPES = {
    1: (0, 6),
    2: (1, 1),
    3: (1, 1),
    4: (1, 2),
    5: (1, 2),
    6: (1, 0),
    7: (0, 1),
    8: (0, 0),
    9: (2, 1),
    10: (2, 2),
    11: (2, 2),
    12: (1, 2),
}


class Call:
    def __init__(self, number, arguments, rows):
        self.number = number
        self.arguments = arguments
        self.rows = rows


class Reader:
    def __init__(self, numbers):
        self.numbers = numbers
        self.place = 0

    def has_more(self):
        return self.place < len(self.numbers)

    def take_number(self):
        number = self.numbers[self.place]
        self.place += 1
        return number

    # A slice is a copy, so that nothing made of a row can change what was handed in.
    def take_row(self):
        length = self.take_number()
        row = self.numbers[self.place:self.place + length]
        self.place += length
        return row

    # Arguments and rows are read whole before anything is judged: a refused call takes up its numbers too.
    def take_call(self):
        number = self.take_number()
        shape = CALL_SHAPES[number]
        arguments = [self.take_number() for turn in range(shape[0])]
        rows = [self.take_row() for turn in range(shape[1])]
        return Call(number, arguments, rows)
