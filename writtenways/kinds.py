"""The classes by their numbers, and what can be asked of a class alone."""

# L and R stand for a direction too: then they are the parity of its levels.
L = 0
R = 1
AL = 2
EN = 3
AN = 4
ES = 5
ET = 6
CS = 7
NSM = 8
BN = 9
B = 10
S = 11
WS = 12
ON = 13
LRE = 14
RLE = 15
LRO = 16
RLO = 17
PDF = 18
LRI = 19
RLI = 20
FSI = 21
PDI = 22

HOW_MANY_KINDS = 23


def is_strong(kind):
    return kind in (L, R, AL)


def begins_embedding(kind):
    return kind in (LRE, RLE, LRO, RLO)


def begins_isolate(kind):
    return kind in (LRI, RLI, FSI)


def bounds_isolate(kind):
    return begins_isolate(kind) or kind == PDI


def is_left_out(kind):
    return begins_embedding(kind) or kind in (PDF, BN)


def is_neutral(kind):
    # B is not among them: within a text it counts as S from the beginning.
    return kind in (S, WS, ON) or bounds_isolate(kind)


def side_of(kind):
    """L or R as brackets and neutrals see it, None of what has no direction."""
    if kind == L:
        return L
    if kind in (R, EN, AN):
        return R
    return None


def side_of_level(level):
    return R if level % 2 == 1 else L
