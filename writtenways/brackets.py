"""Brackets (N0), on the classes of one sequence."""

from writtenways.kinds import L, NSM, ON, R, side_of, side_of_level

MOST_WAITING = 63


def topmost_of(waiting, brackets, number):
    """The height on the pile of the topmost bracket with that number, or None."""
    for height in range(len(waiting) - 1, -1, -1):
        if brackets[waiting[height]][0] == number:
            return height
    return None


def pairs_of(kinds, brackets):
    """The pairs (opening, closing) by their openings.

    brackets has for each place of the sequence what the pairs' table says of it, or None.
    """
    waiting = []
    pairs = []
    for k in range(len(kinds)):
        if kinds[k] != ON or brackets[k] is None:
            continue
        if brackets[k][1] == 1:
            if len(waiting) == MOST_WAITING:
                return []
            waiting.append(k)
            continue
        height = topmost_of(waiting, brackets, brackets[k][0])
        if height is not None:
            pairs.append((waiting[height], k))
            waiting = waiting[:height]
    return sorted(pairs)


def side_before(kinds, place, before):
    for k in range(place - 1, -1, -1):
        side = side_of(kinds[k])
        if side is not None:
            return side
    return before


def side_of_pair(kinds, pair, level, before):
    """What both become, or None if they stay."""
    own = side_of_level(level)
    other = L if own == R else R
    within = [side_of(kind) for kind in kinds[pair[0] + 1:pair[1]]]
    if own in within:
        return own
    if other in within:
        # Before the opening stands either the other direction or the level's own: that's it.
        return side_before(kinds, pair[0], before)
    return None


def change_bracket(kinds, first_kinds, place, side):
    kinds[place] = side
    k = place + 1
    while k < len(kinds) and first_kinds[k] == NSM:
        kinds[k] = side
        k += 1


def settle_brackets(kinds, first_kinds, brackets, level, before):
    """Changes kinds; first_kinds are the classes of the same places by the table."""
    for pair in pairs_of(kinds, brackets):
        side = side_of_pair(kinds, pair, level, before)
        if side is not None:
            change_bracket(kinds, first_kinds, pair[0], side)
            change_bracket(kinds, first_kinds, pair[1], side)
