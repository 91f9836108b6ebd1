"""Begins and ends (X1 to X8): the level and the forced class that each place stands under."""

from writtenways.isolates import base_inside
from writtenways.kinds import FSI, L, LRO, PDF, PDI, R, RLE, RLI, RLO, begins_embedding, begins_isolate

HIGHEST_LEVEL = 125


class Frame:
    """What one begin that wasn't refused sets for all behind it, up to its end."""

    def __init__(self, level, forced, isolate):
        self.level = level
        self.forced = forced
        self.isolate = isolate


def level_above(level, side):
    """The next level above that runs to that side."""
    above = level + 1
    return above if above % 2 == side else above + 1


class Nesting:
    """The stack of begins at one place of the paragraph, and what has been refused."""

    def __init__(self, base):
        self.frames = [Frame(base, None, False)]
        self.inside_isolates = 0
        self.refused_embeddings = 0
        self.refused_isolates = 0

    def top(self):
        return self.frames[-1]

    def has_room(self, level):
        return level <= HIGHEST_LEVEL and self.refused_embeddings == 0 and self.refused_isolates == 0

    def begin_embedding(self, side, forced):
        level = level_above(self.top().level, side)
        if self.has_room(level):
            self.frames.append(Frame(level, forced, False))
        elif self.refused_isolates == 0:
            self.refused_embeddings += 1

    def begin_isolate(self, side):
        level = level_above(self.top().level, side)
        if self.has_room(level):
            self.frames.append(Frame(level, None, True))
            self.inside_isolates += 1
        else:
            self.refused_isolates += 1

    def end_embedding(self):
        if self.refused_isolates > 0:
            return
        if self.refused_embeddings > 0:
            self.refused_embeddings -= 1
        elif len(self.frames) > 1 and not self.top().isolate:
            self.frames.pop()

    def end_isolate(self):
        if self.refused_isolates > 0:
            self.refused_isolates -= 1
        elif self.inside_isolates > 0:
            self.refused_embeddings = 0
            while not self.top().isolate:
                self.frames.pop()
            self.frames.pop()
            self.inside_isolates -= 1


def side_of_begin(kinds, partners, place):
    kind = kinds[place]
    if kind == FSI:
        return base_inside(kinds, partners, place)
    return R if kind in (RLE, RLO, RLI) else L


def forced_by(kind):
    if kind == RLO:
        return R
    if kind == LRO:
        return L
    return None


def settle_begins(kinds, partners, base):
    """For each place a pair: its level, and its class or the one that's forced on it."""
    nesting = Nesting(base)
    settled = []
    for place in range(len(kinds)):
        kind = kinds[place]
        # An end stands outside of what it ends, a begin outside of what it begins.
        if kind == PDI:
            nesting.end_isolate()
        elif kind == PDF:
            nesting.end_embedding()
        top = nesting.top()
        # What's left out is in no sequence: a class that's forced on it is never asked for.
        settled.append((top.level, kind if top.forced is None else top.forced))
        if begins_embedding(kind):
            nesting.begin_embedding(side_of_begin(kinds, partners, place), forced_by(kind))
        elif begins_isolate(kind):
            nesting.begin_isolate(side_of_begin(kinds, partners, place))
    return settled
