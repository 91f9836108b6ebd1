"""R4 (what's within an isolate changes no level outside), and of MAIN what's said of levels."""

import random
import unittest

from tests.calling import CLASSES, NAMED, NAMED_TABLES, ask, base, levels, looked, tables

NAMES = [name for name in CLASSES if name not in ("LRI", "RLI", "FSI", "PDI")] + ["(", ")", "[", "]", "nsm(", "cs)"]
BOUNDS = ["LRI", "RLI", "FSI", "PDI"]
BEGINS = BOUNDS[:3]


def characters(names):
    return [NAMED[name] for name in names]


def any_names(source, most):
    return [source.choice(NAMES + BOUNDS) for k in range(source.randint(0, most))]


def closed_names(source, most):
    """Names in which each isolate that begins ends, and none ends that didn't begin."""
    names = [source.choice(NAMES) for k in range(source.randint(0, most))]
    for k in range(source.randint(0, 2)):
        start = source.randint(0, len(names))
        names[start:start] = [source.choice(BEGINS)] + [source.choice(NAMES) for k in range(3)] + ["PDI"]
    return names


def levels_of(told, names):
    answer = ask(NAMED_TABLES, levels(told, characters(names)))[1]
    assert answer[0] == 0
    return answer[1:]


class Inside(unittest.TestCase):
    def outside(self, told, before, begin, inside, behind):
        found = levels_of(told, before + [begin] + inside + behind)
        first = 1 + len(before) + 1
        return found[:first] + found[first + len(inside):]

    def test_what_is_within_an_isolate(self):
        source = random.Random(4)
        for k in range(1500):
            before = any_names(source, 8)
            behind = ["PDI"] + any_names(source, 8)
            begin = source.choice(BEGINS)
            told = source.randint(0, 2)
            found = [self.outside(told, before, begin, closed_names(source, 6), behind) for again in range(3)]
            self.assertEqual(found, [found[0]] * 3, (told, before, begin, behind))

    def test_what_is_within_an_isolate_without_end(self):
        source = random.Random(5)
        for k in range(500):
            before = any_names(source, 8)
            begin = source.choice(BEGINS)
            told = source.randint(0, 2)
            found = [self.outside(told, before, begin, closed_names(source, 6), []) for again in range(3)]
            self.assertEqual(found, [found[0]] * 3, (told, before, begin))

    def test_one_that_holds_all_there_is(self):
        inside = "R AL EN AN ES ET CS NSM BN B S WS ON LRE RLE LRO RLO PDF PDF ( [ ) L".split()
        for told in (0, 1, 2):
            for begin in BEGINS:
                full = self.outside(told, ["R", "("], begin, inside, ["PDI", "NSM", ")", "L"])
                empty = self.outside(told, ["R", "("], begin, [], ["PDI", "NSM", ")", "L"])
                self.assertEqual(full, empty)


class ByTheParagraphAlone(unittest.TestCase):
    def test_no_other_call_changes_a_level(self):
        source = random.Random(6)
        for k in range(200):
            text = characters(any_names(source, 30))
            told = source.randint(0, 2)
            other = characters(any_names(source, 30))
            alone = ask(NAMED_TABLES, levels(told, text))[1]
            among = ask(tables([0, 1114111, 4]), levels(0, text), NAMED_TABLES, levels(1, other), base(other),
                        looked(5), tables([1]), levels(3, text), levels(told, text), levels(told, text))
            self.assertEqual(among[-2:], [alone, alone])

    def test_the_base_that_is_found_is_as_if_told(self):
        source = random.Random(7)
        for k in range(200):
            text = characters(any_names(source, 30))
            found = ask(NAMED_TABLES, base(text), levels(2, text), levels(0, text), levels(1, text))
            self.assertEqual(found[2], found[3 + found[1][1]])
            self.assertEqual(found[2][1], found[1][1])

    def test_each_character_has_one_level_from_the_base_to_126(self):
        source = random.Random(8)
        for k in range(200):
            text = characters(any_names(source, 256))
            answer = ask(NAMED_TABLES, levels(2, text))[1]
            self.assertEqual(len(answer), 2 + len(text))
            self.assertTrue(all(answer[1] <= level <= 126 for level in answer[2:]))


if __name__ == "__main__":
    unittest.main()
