"""R1 (all), R2 (one), R3 (numbers), R5 (back), R6 (lines), and of MAIN what's said of lines, over many texts."""

import random
import re
import unittest

from tests.calling import (CLASSES, MIRROR, NAMED, NAMED_TABLES, SHOWING_TABLES, ask, base, beside, levels, line,
                           looked, reading, sequences, tables)

LEFT_OUT = ("RLE", "LRE", "RLO", "LRO", "PDF", "BN")
BRACKETS = ("(", ")", "[", "]", "nsm(", "cs)")
ALL_NAMES = CLASSES + list(BRACKETS)
# More of what L1 moves, so that rows of it come up often.
BLANK_NAMES = ["R", "L", "EN", "WS", "WS", "S", "B", "BN", "RLE", "PDF", "LRI", "RLI", "PDI", "ON", "NSM"]
DEEP_NAMES = ["RLE", "LRE", "RLI", "LRI", "RLO", "R", "L", "AN"]


def any_names(source, most):
    kinds = source.choice((ALL_NAMES, BLANK_NAMES, DEEP_NAMES))
    return [source.choice(kinds) for k in range(source.randint(0, most))]


def any_part(source, many):
    first = source.randint(0, many)
    return first, source.choice((many - first, source.randint(0, many - first)))


def levels_of_line(paragraph, names, base_level, first, many):
    """L1, by a pattern over one letter for each of the line's characters."""
    letters = ""
    for name in names[first:first + many]:
        if name in ("S", "B"):
            letters += "s"
        else:
            letters += "w" if name in LEFT_OUT + ("WS", "LRI", "RLI", "FSI", "PDI") else "x"
    found = paragraph[first:first + many]
    for match in re.finditer("w*(s|$)", letters):
        found[match.start():match.end()] = [base_level] * (match.end() - match.start())
    return found


def laid(places, line_levels, level):
    """L2 told otherwise: what is above a level lies as one piece among what is on it."""
    pieces = []
    inner = []
    for place in places:
        if line_levels[place] > level:
            inner.append(place)
            continue
        pieces += [laid(inner, line_levels, level + 1), [place]] if inner else [[place]]
        inner = []
    if inner:
        pieces.append(laid(inner, line_levels, level + 1))
    if level % 2 == 1:
        pieces = pieces[::-1]
    return [place for piece in pieces for place in piece]


class Case:
    """A text, a part of it, and what the calls answer."""

    def __init__(self, source, most):
        self.names = any_names(source, most)
        self.text = [NAMED[name] for name in self.names]
        self.told = source.randint(0, 2)
        self.first, self.many = any_part(source, len(self.text))
        found = ask(SHOWING_TABLES, levels(self.told, self.text), line(self.told, self.first, self.many, self.text))
        self.base = found[1][1]
        self.paragraph = found[1][2:]
        self.places = found[2][1::2]
        self.shown = found[2][2::2]
        self.levels = levels_of_line(self.paragraph, self.names, self.base, self.first, self.many)
        self.told_by = (self.told, self.first, self.many, " ".join(self.names))


def cases(seed, many, most):
    source = random.Random(seed)
    return [Case(source, most) for k in range(many)] + [Case(source, 256) for k in range(many // 10)]


class Lines(unittest.TestCase):
    @classmethod
    def setUpClass(cls):
        cls.cases = cases(11, 1500, 24)

    def test_r1_every_place_of_a_line_is_seen_once(self):
        for case in self.cases:
            self.assertEqual(sorted(case.places), list(range(case.first, case.first + case.many)), case.told_by)
            self.assertEqual(len(case.shown), case.many, case.told_by)

    def test_r1_what_is_shown_is_what_was_written_or_its_mirror(self):
        for case in self.cases:
            for place, shown in zip(case.places, case.shown):
                odd = case.levels[place - case.first] % 2 == 1
                self.assertEqual(shown, case.text[place] + (MIRROR if odd else 0), case.told_by)

    def test_r3_what_stands_side_by_side_on_one_level_stays_so(self):
        for case in self.cases:
            where = {place - case.first: k for k, place in enumerate(case.places)}
            for k in range(1, case.many):
                if case.levels[k] == case.levels[k - 1]:
                    step = -1 if case.levels[k] % 2 == 1 else 1
                    self.assertEqual(where[k] - where[k - 1], step, case.told_by)

    def test_r5_reading_gives_back_what_line_laid_out(self):
        for case in self.cases:
            found = ask(reading(case.levels, case.places), reading(case.levels, case.shown))
            self.assertEqual(found[0], [0] + list(range(case.first, case.first + case.many)), case.told_by)
            written = [shown % MIRROR for shown in found[1][1:]]
            self.assertEqual(written, case.text[case.first:case.first + case.many], case.told_by)

    def test_r6_a_lines_levels_are_the_paragraphs_but_for_l1(self):
        for case in self.cases:
            expected = [case.first + k for k in laid(range(case.many), case.levels, 0)]
            self.assertEqual(case.places, expected, case.told_by)

    def test_beside_goes_by_what_line_lays_out(self):
        for case in self.cases[::5]:
            part = (case.told, case.first, case.many)
            for k, place in enumerate(case.places[:40]):
                found = ask(NAMED_TABLES, *[beside(*part, place, right, case.text) for right in (0, 1)])
                left = [0, case.places[k - 1]] if k > 0 else [-2]
                right = [0, case.places[k + 1]] if k + 1 < case.many else [-2]
                self.assertEqual(found[1:], [left, right], case.told_by)

    def test_the_cases_are_not_all_alike(self):
        self.assertTrue(any(case.levels != case.paragraph[case.first:case.first + case.many] for case in self.cases))
        self.assertTrue(any(max(case.levels, default=0) > 60 for case in self.cases))
        self.assertTrue(any(case.many == 0 for case in self.cases))
        self.assertTrue(any(case.many > 200 for case in self.cases))


class One(unittest.TestCase):
    def seen(self, told, names, first, many):
        text = [NAMED[name] for name in names]
        return ask(NAMED_TABLES, line(told, first, many, text))[1][1::2]

    def test_r2_all_from_the_left_at_base_0_is_seen_as_it_was_written(self):
        source = random.Random(12)
        for k in range(200):
            names = ["L"] * source.choice((source.randint(0, 20), 255, 256))
            first, many = any_part(source, len(names))
            for told in (0, 2):
                self.assertEqual(self.seen(told, names, first, many), list(range(first, first + many)))

    def test_r2_all_from_the_right_at_base_1_is_seen_turned_round(self):
        source = random.Random(13)
        for k in range(200):
            names = [source.choice(("R", "AL")) for k in range(source.choice((source.randint(1, 20), 255, 256)))]
            first, many = any_part(source, len(names))
            for told in (1, 2):
                self.assertEqual(self.seen(told, names, first, many), list(range(first + many - 1, first - 1, -1)))

    def test_r2_with_what_has_no_direction_of_its_own(self):
        source = random.Random(14)
        for k in range(200):
            neutral = [source.choice(("L", "WS", "S", "B", "ON", "NSM", "CS", "BN", "PDI", "(", ")")) for k in range(20)]
            self.assertEqual(self.seen(0, neutral, 0, 20), list(range(20)))
            turned = ["R" if name == "L" else name for name in neutral]
            self.assertEqual(self.seen(1, turned, 0, 20), list(range(19, -1, -1)))

    def test_r2_a_number_from_the_right_is_not_turned(self):
        self.assertEqual(self.seen(1, ["R", "EN", "EN", "R"], 0, 4), [3, 1, 2, 0])


class Sequences(unittest.TestCase):
    def test_every_place_that_is_not_left_out_is_in_one_sequence(self):
        for case in cases(15, 600, 40):
            answer = ask(NAMED_TABLES, sequences(case.told, case.text))[1]
            found = []
            firsts = []
            k = 2
            while k < len(answer):
                places = answer[k + 2:k + 2 + answer[k]]
                self.assertTrue(places and places == sorted(places), case.told_by)
                for place in places:
                    self.assertIn(case.paragraph[place] - answer[k + 1], (0, 1, 2), case.told_by)
                found += places
                firsts.append(places[0])
                k += 2 + answer[k]
            self.assertEqual(len(firsts), answer[1], case.told_by)
            self.assertEqual(firsts, sorted(firsts), case.told_by)
            kept = [place for place, name in enumerate(case.names) if name not in LEFT_OUT]
            self.assertEqual(sorted(found), kept, case.told_by)


class ByTheParagraphAlone(unittest.TestCase):
    def test_no_other_call_changes_an_answer(self):
        source = random.Random(16)
        for k in range(150):
            case = Case(source, 30)
            other = Case(source, 30)
            part = (case.told, case.first, case.many)
            mine = [sequences(case.told, case.text), line(*part, case.text),
                    beside(*part, case.first, 1, case.text), reading(case.levels, case.places)]
            alone = [ask(SHOWING_TABLES, call)[1] for call in mine]
            others = [tables([1]), line(other.told, other.first, other.many, other.text), sequences(3, case.text),
                      line(*part, [55296]), beside(*part, case.first + case.many, 0, case.text), reading([127], [0]),
                      reading(other.levels, other.shown), base(other.text), looked(40), levels(other.told, other.text)]
            calls = [tables([0, 1114111, 4]), line(*part, case.text), SHOWING_TABLES]
            for call in mine:
                calls += others + [call]
            found = ask(*calls)[3:]
            self.assertEqual(found[len(others)::len(others) + 1], alone, case.told_by)

    def test_the_base_that_is_found_is_as_if_told(self):
        for case in cases(17, 200, 30):
            part = (case.first, case.many, case.text)
            found = ask(SHOWING_TABLES, base(case.text), *[line(told, *part) for told in (0, 1, 2)],
                        *[sequences(told, case.text) for told in (0, 1, 2)])
            self.assertEqual(found[4], found[2 + found[1][1]], case.told_by)
            self.assertEqual(found[7], found[5 + found[1][1]], case.told_by)


if __name__ == "__main__":
    unittest.main()
