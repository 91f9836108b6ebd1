"""Numbers and marks (W1 to W7), on the classes of one sequence."""

from writtenways.kinds import AL, AN, CS, EN, ES, ET, L, NSM, ON, R, bounds_isolate, is_strong


def settle_marks(kinds, before):
    last = before
    for k in range(len(kinds)):
        if kinds[k] == NSM:
            kinds[k] = ON if bounds_isolate(last) else last
        last = kinds[k]


def change_digits(kinds, before, strong, changed):
    """Each EN whose last strong one before is the strong one told becomes the changed one."""
    last = before
    for k in range(len(kinds)):
        if is_strong(kinds[k]):
            last = kinds[k]
        elif kinds[k] == EN and last == strong:
            kinds[k] = changed


def change_all(kinds, olds, new):
    for k in range(len(kinds)):
        if kinds[k] in olds:
            kinds[k] = new


def join_numbers(kinds):
    for k in range(1, len(kinds) - 1):
        beside = kinds[k - 1]
        if beside != kinds[k + 1]:
            continue
        if kinds[k] == ES and beside == EN:
            kinds[k] = EN
        elif kinds[k] == CS and beside in (EN, AN):
            kinds[k] = beside


def take_terminators(kinds):
    """From the left, then from the right: so a whole row follows the EN at either end."""
    for k in range(1, len(kinds)):
        if kinds[k] == ET and kinds[k - 1] == EN:
            kinds[k] = EN
    for k in range(len(kinds) - 2, -1, -1):
        if kinds[k] == ET and kinds[k + 1] == EN:
            kinds[k] = EN


def settle_numbers(kinds, before):
    """Changes the list: from here on it has neither NSM nor AL nor signs in numbers."""
    settle_marks(kinds, before)
    change_digits(kinds, before, AL, AN)
    change_all(kinds, (AL,), R)
    join_numbers(kinds)
    take_terminators(kinds)
    change_all(kinds, (ES, ET, CS), ON)
    change_digits(kinds, before, L, L)
