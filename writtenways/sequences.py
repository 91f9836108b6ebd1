"""Runs and sequences (X10)."""

from writtenways.kinds import PDI, begins_isolate, is_left_out, side_of_level


class Sequence:
    """Places of one level that are settled together, and the L or R before and behind them."""

    def __init__(self, level, places, before, behind):
        self.level = level
        self.places = places
        self.before = before
        self.behind = behind


def runs_of(kinds, levels):
    """The places of each run; what's left out is in none of them."""
    runs = []
    level = None
    for place in range(len(kinds)):
        if is_left_out(kinds[place]):
            continue
        if levels[place] != level:
            level = levels[place]
            runs.append([])
        runs[-1].append(place)
    return runs


def goes_on(kinds, partners, run):
    last = run[-1]
    return begins_isolate(kinds[last]) and partners[last] is not None


def continues_another(kinds, partners, run):
    return kinds[run[0]] == PDI and partners[run[0]] is not None


def level_before(runs, levels, number, base):
    return base if number == 0 else levels[runs[number - 1][0]]


def level_behind(runs, levels, number, base):
    return base if number + 1 == len(runs) else levels[runs[number + 1][0]]


def sequences_of(kinds, partners, levels, base):
    """The sequences in the order of their first places; kinds are the classes at first."""
    runs = runs_of(kinds, levels)
    run_from = {}
    for number in range(len(runs)):
        run_from[runs[number][0]] = number
    sequences = []
    for number in range(len(runs)):
        if continues_another(kinds, partners, runs[number]):
            continue
        places = list(runs[number])
        final = number
        while goes_on(kinds, partners, runs[final]):
            final = run_from[partners[places[-1]]]
            places.extend(runs[final])
        level = levels[places[0]]
        before = max(level, level_before(runs, levels, number, base))
        # What's within an isolate without end isn't behind the sequence: it's in the sequence's midst.
        endless = begins_isolate(kinds[places[-1]])
        behind = max(level, base if endless else level_behind(runs, levels, final, base))
        sequences.append(Sequence(level, places, side_of_level(before), side_of_level(behind)))
    return sequences
