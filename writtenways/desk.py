"""The one object that the calls are made on: their answers and their refusals."""

from writtenways.lines import levels_in_line, order_read, order_seen
from writtenways.paragraph import Paragraph, base_of
from writtenways.tables import Tables, is_character, refusal_of_tables

BY_THE_TEXT = 2
MOST_CHARACTERS = 256
HIGHEST_IN_LINE = 126


def is_text(numbers):
    return len(numbers) <= MOST_CHARACTERS and all([is_character(number) for number in numbers])


def is_told_text(told, text):
    return told <= BY_THE_TEXT and is_text(text)


def is_line(told, first, many, text):
    # No number is below 0, so a first above the text's length is refused here too, whatever many is.
    return is_told_text(told, text) and first + many <= len(text)


class Desk:
    """Keeps the tables, and nothing else from one call to the next."""

    def __init__(self):
        self.tables = Tables([], [], [])

    def keep_tables(self, classes, pairs, mirrors):
        refusal = refusal_of_tables(classes, pairs, mirrors)
        if refusal is not None:
            return refusal
        self.tables = Tables(classes, pairs, mirrors)
        return [0]

    def look_up(self, character):
        if not is_character(character):
            return [-1]
        kind = self.tables.kind_of(character)
        shown = self.tables.shown_for(character)
        bracket = self.tables.bracket_of(character)
        if bracket is None:
            return [0, kind, 0, 0, 0, shown]
        return [0, kind, 1, bracket[0], bracket[1], shown]

    def tell_base(self, text):
        if not is_text(text):
            return [-1]
        return [0, base_of(self.tables, text)]

    def paragraph_of(self, told, text):
        base = base_of(self.tables, text) if told == BY_THE_TEXT else told
        return Paragraph(self.tables, text, base)

    def tell_levels(self, told, text):
        if not is_told_text(told, text):
            return [-1]
        paragraph = self.paragraph_of(told, text)
        return [0, paragraph.base] + paragraph.final_levels()

    def tell_sequences(self, told, text):
        if not is_told_text(told, text):
            return [-1]
        sequences = self.paragraph_of(told, text).sequences
        answer = [0, len(sequences)]
        for sequence in sequences:
            answer.extend([len(sequence.places), sequence.level])
            answer.extend(sequence.places)
        return answer

    def show_line(self, told, first, many, text):
        if not is_line(told, first, many, text):
            return [-1]
        levels = levels_in_line(self.paragraph_of(told, text), first, many)
        answer = [0]
        for k in order_seen(levels):
            character = text[first + k]
            shown = self.tables.shown_for(character) if levels[k] % 2 == 1 else character
            answer.extend([first + k, shown])
        return answer

    def find_beside(self, told, first, many, place, right, text):
        if not is_line(told, first, many, text) or right > 1:
            return [-1]
        if not first <= place < first + many:
            return [-4]
        order = order_seen(levels_in_line(self.paragraph_of(told, text), first, many))
        seen = order.index(place - first) + (1 if right == 1 else -1)
        if not 0 <= seen < many:
            return [-2]
        return [0, first + order[seen]]

    def put_in_reading(self, levels, row):
        if len(levels) > MOST_CHARACTERS or len(levels) != len(row):
            return [-1]
        if any([level > HIGHEST_IN_LINE for level in levels]):
            return [-1]
        return [0] + order_read(levels, row)
