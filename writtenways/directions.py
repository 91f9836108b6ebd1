"""The calls on one object, one behind another, and their answers."""

from writtenways.paragraph import base_of, levels_of
from writtenways.tables import Tables, is_character, refusal_of_tables

TABLES = 1
LOOKED = 2
BASE = 3
LEVELS = 4

BY_THE_TEXT = 2
MOST_CHARACTERS = 256


class UnknownCall(ValueError):
    """Where a call should begin stands a number that's none of the calls'."""


class Reader:
    """Goes through the list that's handed in; reads it and changes nothing in it."""

    def __init__(self, calls):
        self.calls = calls
        self.place = 0

    def is_done(self):
        return self.place >= len(self.calls)

    def take_number(self):
        number = self.calls[self.place]
        self.place += 1
        return number

    def take_row(self):
        many = self.take_number()
        row = self.calls[self.place:self.place + many]
        self.place += many
        return row


def is_text(numbers):
    return len(numbers) <= MOST_CHARACTERS and all([is_character(number) for number in numbers])


class Desk:
    """The one object that the calls are made on: it keeps the tables."""

    def __init__(self):
        self.tables = Tables([], [], [])

    def answer(self, reader):
        call = reader.take_number()
        if call == TABLES:
            classes = reader.take_row()
            pairs = reader.take_row()
            mirrors = reader.take_row()
            return self.keep_tables(classes, pairs, mirrors)
        if call == LOOKED:
            return self.looked(reader.take_number())
        if call == BASE:
            return self.base(reader.take_row())
        if call == LEVELS:
            told = reader.take_number()
            return self.levels(told, reader.take_row())
        raise UnknownCall(f"no call with the number {call} is known")

    def keep_tables(self, classes, pairs, mirrors):
        refusal = refusal_of_tables(classes, pairs, mirrors)
        if refusal is not None:
            return refusal
        self.tables = Tables(classes, pairs, mirrors)
        return [0]

    def looked(self, character):
        if not is_character(character):
            return [-1]
        kind = self.tables.kind_of(character)
        shown = self.tables.shown_for(character)
        bracket = self.tables.bracket_of(character)
        if bracket is None:
            return [0, kind, 0, 0, 0, shown]
        return [0, kind, 1, bracket[0], bracket[1], shown]

    def base(self, text):
        if not is_text(text):
            return [-1]
        return [0, base_of(self.tables, text)]

    def levels(self, told, text):
        if told > BY_THE_TEXT or not is_text(text):
            return [-1]
        base = base_of(self.tables, text) if told == BY_THE_TEXT else told
        return [0, base] + levels_of(self.tables, text, base)


def answers(calls):
    """For each call how many numbers are answered, and these."""
    reader = Reader(calls)
    desk = Desk()
    given = []
    while not reader.is_done():
        answer = desk.answer(reader)
        given.append(len(answer))
        given.extend(answer)
    return given
