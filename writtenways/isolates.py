"""Which PDI ends which isolate, and the base that a stretch of text tells by itself."""

from writtenways.kinds import AL, L, PDI, R, begins_isolate


def partners_of(kinds):
    """For each place the place of its isolate's other bound, None where there is none."""
    partners = [None for kind in kinds]
    waiting = []
    for place in range(len(kinds)):
        if begins_isolate(kinds[place]):
            waiting.append(place)
        elif kinds[place] == PDI and len(waiting) > 0:
            begin = waiting.pop()
            partners[begin] = place
            partners[place] = begin
    return partners


def base_between(kinds, partners, start, end):
    """The base by the first strong one from start to before end that's in no isolate."""
    place = start
    while place < end:
        kind = kinds[place]
        if kind == L:
            return 0
        if kind in (R, AL):
            return 1
        if begins_isolate(kind):
            if partners[place] is None:
                return 0
            place = partners[place]
        place += 1
    return 0


def base_inside(kinds, partners, begin):
    """The base by what stands within the isolate that begins at that place."""
    end = len(kinds) if partners[begin] is None else partners[begin]
    return base_between(kinds, partners, begin + 1, end)
