"""A paragraph: its base, its sequences and its levels, from the classes to the last rule (I1, I2)."""

from writtenways.brackets import settle_brackets
from writtenways.isolates import base_between, partners_of
from writtenways.kinds import AN, B, EN, L, R, S, is_left_out
from writtenways.marks import settle_numbers
from writtenways.nesting import settle_begins
from writtenways.neutrals import settle_neutrals
from writtenways.sequences import sequences_of


def kinds_of(tables, text):
    """The classes by the table, but that a B within a text counts as S."""
    kinds = [tables.kind_of(character) for character in text]
    return [S if kind == B else kind for kind in kinds]


def base_of(tables, text):
    kinds = kinds_of(tables, text)
    return base_between(kinds, partners_of(kinds), 0, len(kinds))


def raised(level, kind):
    if level % 2 == 0:
        if kind == R:
            return level + 1
        return level + 2 if kind in (AN, EN) else level
    return level + 1 if kind in (L, EN, AN) else level


class Paragraph:
    """A text by the base that's told: its classes at first and its sequences."""

    def __init__(self, tables, text, base):
        self.base = base
        self.kinds = kinds_of(tables, text)
        self.brackets = [tables.bracket_of(character) for character in text]
        partners = partners_of(self.kinds)
        nested = settle_begins(self.kinds, partners, base)
        self.forced_kinds = [forced_kind for level, forced_kind in nested]
        self.sequences = sequences_of(self.kinds, partners, [level for level, forced_kind in nested], base)

    def settled_in(self, sequence):
        """The classes of the sequence's places when all rules but the last are done."""
        settled = [self.forced_kinds[place] for place in sequence.places]
        first_kinds = [self.kinds[place] for place in sequence.places]
        brackets = [self.brackets[place] for place in sequence.places]
        settle_numbers(settled, sequence.before)
        settle_brackets(settled, first_kinds, brackets, sequence.level, sequence.before)
        settle_neutrals(settled, sequence.level, sequence.before, sequence.behind)
        return settled

    def final_levels(self):
        """Each character's level."""
        levels = [self.base for kind in self.kinds]
        for sequence in self.sequences:
            for place, kind in zip(sequence.places, self.settled_in(sequence)):
                levels[place] = raised(sequence.level, kind)
        for place in range(1, len(levels)):
            if is_left_out(self.kinds[place]):
                levels[place] = levels[place - 1]
        return levels
