"""The calls on one object, one behind another: how they are read and handed on."""

from writtenways.desk import Desk

TABLES = 1
LOOKED = 2
BASE = 3
LEVELS = 4
SEQUENCES = 5
LINE = 6
BESIDE = 7

# By the call's number: how many whole numbers it has, and how many rows behind them.
SHAPES = {1: (0, 3), 2: (1, 0), 3: (0, 1), 4: (1, 1), 5: (1, 1), 6: (3, 1), 7: (5, 1), 8: (0, 2)}


class UnknownCall(ValueError):
    """Where a call should begin stands a number that's none of the calls'."""


class Reader:
    """Goes through the list that's handed in; reads it and changes nothing in it."""

    def __init__(self, calls):
        self.calls = calls
        self.place = 0

    def is_done(self):
        return self.place >= len(self.calls)

    def take_number(self):
        number = self.calls[self.place]
        self.place += 1
        return number

    def take_row(self):
        many = self.take_number()
        row = self.calls[self.place:self.place + many]
        self.place += many
        return row


def answer_of(desk, call, numbers, rows):
    if call == TABLES:
        return desk.keep_tables(rows[0], rows[1], rows[2])
    if call == LOOKED:
        return desk.look_up(numbers[0])
    if call == BASE:
        return desk.tell_base(rows[0])
    if call == LEVELS:
        return desk.tell_levels(numbers[0], rows[0])
    if call == SEQUENCES:
        return desk.tell_sequences(numbers[0], rows[0])
    if call == LINE:
        return desk.show_line(numbers[0], numbers[1], numbers[2], rows[0])
    if call == BESIDE:
        return desk.find_beside(numbers[0], numbers[1], numbers[2], numbers[3], numbers[4], rows[0])
    # Of the calls that have a shape, reading alone is left.
    return desk.put_in_reading(rows[0], rows[1])


def answer_next(desk, reader):
    call = reader.take_number()
    if call not in SHAPES:
        raise UnknownCall(f"no call with the number {call} is known")
    shape = SHAPES[call]
    numbers = [reader.take_number() for k in range(shape[0])]
    rows = [reader.take_row() for k in range(shape[1])]
    return answer_of(desk, call, numbers, rows)


def answers(calls):
    """For each call how many numbers are answered, and these."""
    reader = Reader(calls)
    desk = Desk()
    given = []
    while not reader.is_done():
        answer = answer_next(desk, reader)
        given.append(len(answer))
        given.extend(answer)
    return given
