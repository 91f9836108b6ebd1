"""A paragraph: its base and its levels, from the classes to the last rule (I1, I2)."""

from writtenways.brackets import settle_brackets
from writtenways.isolates import base_between, partners_of
from writtenways.kinds import AN, B, EN, L, R, S, is_left_out
from writtenways.marks import settle_numbers
from writtenways.nesting import settle_begins
from writtenways.neutrals import settle_neutrals
from writtenways.sequences import sequences_of


def kinds_of(tables, text):
    """The classes by the table, but that a B within a text counts as S."""
    kinds = [tables.kind_of(character) for character in text]
    return [S if kind == B else kind for kind in kinds]


def base_of(tables, text):
    kinds = kinds_of(tables, text)
    return base_between(kinds, partners_of(kinds), 0, len(kinds))


def raised(level, kind):
    if level % 2 == 0:
        if kind == R:
            return level + 1
        return level + 2 if kind in (AN, EN) else level
    return level + 1 if kind in (L, EN, AN) else level


def settled_in(sequence, kinds, forced_kinds, brackets):
    """The classes of the sequence's places when all rules but the last are done."""
    settled = [forced_kinds[place] for place in sequence.places]
    first_kinds = [kinds[place] for place in sequence.places]
    beside = [brackets[place] for place in sequence.places]
    settle_numbers(settled, sequence.before)
    settle_brackets(settled, first_kinds, beside, sequence.level, sequence.before)
    settle_neutrals(settled, sequence.level, sequence.before, sequence.behind)
    return settled


def levels_of(tables, text, base):
    """Each character's level by the base that's told."""
    kinds = kinds_of(tables, text)
    partners = partners_of(kinds)
    nested = settle_begins(kinds, partners, base)
    levels = [level for level, forced_kind in nested]
    forced_kinds = [forced_kind for level, forced_kind in nested]
    brackets = [tables.bracket_of(character) for character in text]
    final = list(levels)
    for sequence in sequences_of(kinds, partners, levels, base):
        settled = settled_in(sequence, kinds, forced_kinds, brackets)
        for place, kind in zip(sequence.places, settled):
            final[place] = raised(sequence.level, kind)
    for place in range(len(kinds)):
        if is_left_out(kinds[place]):
            final[place] = base if place == 0 else final[place - 1]
    return final
