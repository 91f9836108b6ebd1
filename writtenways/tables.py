"""The tables of classes, pairs and mirrors: what is refused, and what is kept."""

from writtenways.kinds import HOW_MANY_KINDS, L

LAST_CHARACTER = 1114111
FIRST_SURROGATE = 55296
LAST_SURROGATE = 57343

MOST_ROWS = 256
# How many numbers a row has: of the classes, of the pairs, of the mirrors.
WIDTHS = (3, 3, 2)


def is_character(number):
    return number <= LAST_CHARACTER and not FIRST_SURROGATE <= number <= LAST_SURROGATE


def rows_of(numbers, width):
    return [tuple(numbers[k:k + width]) for k in range(0, len(numbers), width)]


def fault_in_classes(numbers):
    """The place of the first number that isn't as it must be, or None."""
    least = 0
    for k in range(0, len(numbers), 3):
        if numbers[k] < least or not is_character(numbers[k]):
            return k
        if numbers[k + 1] < numbers[k] or not is_character(numbers[k + 1]):
            return k + 1
        if numbers[k + 2] >= HOW_MANY_KINDS:
            return k + 2
        least = numbers[k + 1] + 1
    return None


def fault_in_pairs(numbers):
    least = 0
    for k in range(0, len(numbers), 3):
        if numbers[k] < least or not is_character(numbers[k]):
            return k
        if numbers[k + 2] > 1:
            return k + 2
        least = numbers[k] + 1
    return None


def fault_in_mirrors(numbers):
    least = 0
    for k in range(0, len(numbers), 2):
        if numbers[k] < least or not is_character(numbers[k]):
            return k
        if not is_character(numbers[k + 1]):
            return k + 1
        least = numbers[k] + 1
    return None


def refusal_of_tables(classes, pairs, mirrors):
    """The refusal as it is answered, or None if the tables are as they must be."""
    sizes = (len(classes), len(pairs), len(mirrors))
    for k in range(3):
        if sizes[k] > MOST_ROWS * WIDTHS[k]:
            return [-1]
    for k in range(3):
        if sizes[k] % WIDTHS[k] != 0:
            return [-2, k, sizes[k]]
    faults = (fault_in_classes(classes), fault_in_pairs(pairs), fault_in_mirrors(mirrors))
    for k in range(3):
        if faults[k] is not None:
            return [-2, k, faults[k]]
    return None


class Tables:
    """The tables that are kept; the lists are taken as not refused."""

    def __init__(self, classes, pairs, mirrors):
        self.ranges = rows_of(classes, 3)
        self.brackets = {}
        for row in rows_of(pairs, 3):
            self.brackets[row[0]] = (row[1], row[2])
        self.mirrored = {}
        for row in rows_of(mirrors, 2):
            self.mirrored[row[0]] = row[1]

    def kind_of(self, character):
        # The rows rise, so halving finds the first that doesn't end below the character.
        low = 0
        high = len(self.ranges)
        while low < high:
            middle = (low + high) // 2
            if self.ranges[middle][1] < character:
                low = middle + 1
            else:
                high = middle
        if low < len(self.ranges) and self.ranges[low][0] <= character:
            return self.ranges[low][2]
        return L

    def bracket_of(self, character):
        """The pair's number and 1 if it opens, else 0; None of what is no bracket."""
        return self.brackets.get(character)

    def shown_for(self, character):
        return self.mirrored.get(character, character)
