"""Neutrals (N1, N2), on the classes of one sequence."""

from writtenways.kinds import is_neutral, side_of, side_of_level


def end_of_row(kinds, start):
    end = start
    while end < len(kinds) and is_neutral(kinds[end]):
        end += 1
    return end


def settle_neutrals(kinds, level, before, behind):
    """Changes the list: from here on it has L, R, EN and AN alone."""
    start = 0
    while start < len(kinds):
        end = end_of_row(kinds, start)
        left = before if start == 0 else side_of(kinds[start - 1])
        right = behind if end == len(kinds) else side_of(kinds[end])
        side = left if left == right else side_of_level(level)
        for k in range(start, end):
            kinds[k] = side
        # What ended the row is no neutral, so the next one begins behind it at the earliest.
        start = end + 1
