"""Calls taken apart from the one list in which they're handed in."""

CALL_BOOK = 0
CALL_PRINTED = 1
CALL_SIZE = 2
CALL_NAME = 3
CALL_FIND = 4
CALL_OVER = 5
CALL_WAY = 6

# for each call, by its number: how many whole numbers it has, and how many rows behind them
SHAPES = ((0, 1), (0, 0), (0, 0), (1, 0), (0, 1), (2, 0), (2, 0), (1, 0))


class Call:
    # given holds its whole numbers, then its rows as lists of their own
    def __init__(self, number, given):
        self.number = number
        self.given = given


class CallReader:
    def __init__(self, handed_in):
        self.handed_in = handed_in
        self.at = 0

    def has_more(self):
        return self.at < len(self.handed_in)

    def take_number(self):
        number = self.handed_in[self.at]
        self.at += 1
        return number

    def take_row(self):
        length = self.take_number()
        row = self.handed_in[self.at:self.at + length]
        self.at += length
        return row

    def take_call(self):
        number = self.take_number()
        shape = SHAPES[number]
        given = []
        while len(given) < shape[0]:
            given.append(self.take_number())
        while len(given) < shape[0] + shape[1]:
            given.append(self.take_row())
        return Call(number, given)


def calls_of(handed_in):
    reader = CallReader(handed_in)
    calls = []
    while reader.has_more():
        calls.append(reader.take_call())
    return calls
