"""What the tests share: calls put together, answers taken apart, texts written by classes."""

import unittest

from writtenways.directions import answers

CLASSES = ("L R AL EN AN ES ET CS NSM BN B S WS ON "
           "LRE RLE LRO RLO PDF LRI RLI FSI PDI").split()
NUMBER_OF = {name: number for number, name in enumerate(CLASSES)}

# The tables of the document's examples.
EXAMPLE_CLASSES = [32, 32, 12, 40, 41, 13, 48, 57, 3, 1488, 1514, 1]
EXAMPLE_PAIRS = [40, 1, 1, 41, 1, 0]
EXAMPLE_MIRRORS = [40, 41, 41, 40]

# The tables of texts that are written by classes: 100 characters of each class.
NAMED = {name: 100 * number for name, number in NUMBER_OF.items()}
NAMED.update({"(": 1310, ")": 1311, "[": 1312, "]": 1313, "<": 1314, ">": 1315,
              "cs(": 710, "cs)": 711, "nsm(": 810, "nsm)": 811, "l(": 10, "l)": 11})
NAMED_CLASSES = [x for n in range(23) for x in (100 * n, 100 * n + 99, n)]
# "<" and ">" have the number of "(" and ")": any opening of a number goes with any closing.
NAMED_PAIRS = [10, 1, 1, 11, 1, 0, 710, 1, 1, 711, 1, 0, 810, 1, 1, 811, 1, 0,
               1310, 1, 1, 1311, 1, 0, 1312, 4294967295, 1, 1313, 4294967295, 0, 1314, 1, 1, 1315, 1, 0]


def tables(classes, pairs=(), mirrors=()):
    return [1, len(classes), *classes, len(pairs), *pairs, len(mirrors), *mirrors]


def looked(character):
    return [2, character]


def base(text):
    return [3, len(text), *text]


def levels(told, text):
    return [4, told, len(text), *text]


def sequences(told, text):
    return [5, told, len(text), *text]


def line(told, first, many, text):
    return [6, told, first, many, len(text), *text]


def beside(told, first, many, place, right, text):
    return [7, told, first, many, place, right, len(text), *text]


def reading(line_levels, row):
    return [8, len(line_levels), *line_levels, len(row), *row]


def split(numbers):
    """The answers one by one, from the list that is given back."""
    found = []
    place = 0
    while place < len(numbers):
        many = numbers[place]
        found.append(numbers[place + 1:place + 1 + many])
        place += 1 + many
    return found


def ask(*calls):
    return split(answers([number for call in calls for number in call]))


EXAMPLE_TABLES = tables(EXAMPLE_CLASSES, EXAMPLE_PAIRS, EXAMPLE_MIRRORS)
NAMED_TABLES = tables(NAMED_CLASSES, NAMED_PAIRS)

# Every character of a text that is written by classes is shown by another one on odd levels.
MIRROR = 500000
SHOWING_TABLES = tables(NAMED_CLASSES, NAMED_PAIRS, [x for c in sorted(NAMED.values()) for x in (c, c + MIRROR)])


def written(names):
    """The characters of a text that is written by its classes and brackets."""
    return [NAMED[name] for name in names.split()]


def named_levels(told, names):
    """The whole answer of levels for a text that is written by its classes."""
    return ask(NAMED_TABLES, levels(told, written(names)))[1]


def named_base(names):
    return ask(NAMED_TABLES, base(written(names)))[1]


def named_sequences(told, names):
    return ask(NAMED_TABLES, sequences(told, written(names)))[1]


def named_line(told, names, first, many):
    """The places as they're seen, in words; behind each that is mirrored stands a stroke."""
    text = written(names)
    answer = ask(SHOWING_TABLES, line(told, first, many, text))[1]
    words = []
    for place, shown in zip(answer[1::2], answer[2::2]):
        words.append(f"{place}'" if shown == text[place] + MIRROR else f"{place}")
        assert shown in (text[place], text[place] + MIRROR)
    assert answer[0] == 0 and len(answer) == 1 + 2 * len(words)
    return " ".join(words)


class LevelsCase(unittest.TestCase):
    """Levels of texts that are written by their classes: all of them, or the last ones."""

    def check(self, told, names, expected):
        answer = named_levels(told, names)
        self.assertEqual(answer[0], 0)
        self.assertEqual(answer[2:], expected, names)

    def check_tail(self, told, names, expected):
        self.assertEqual(named_levels(told, names)[-len(expected):], expected, names)
