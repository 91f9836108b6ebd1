"""The list that's handed in and the list that's given back."""

import contextlib
import inspect
import io
import sys
import unittest

from tests.calling import (EXAMPLE_TABLES, NAMED_TABLES, ask, base, beside, levels, line, looked, reading, sequences,
                           split, tables, written)
from writtenways.directions import UnknownCall, answers

TEXT = [1488, 49, 50, 1489]
MIXED = (EXAMPLE_TABLES + looked(40) + base([1488]) + levels(2, TEXT) + looked(55296)
         + sequences(2, TEXT) + line(2, 0, 4, TEXT) + beside(2, 0, 4, 3, 1, TEXT) + reading([1, 2], [5, 6])
         + tables([1]) + levels(3, []) + sequences(3, []) + line(2, 5, 0, TEXT) + beside(2, 0, 4, 4, 1, TEXT)
         + beside(2, 0, 4, 3, 0, TEXT) + reading([127], [0]) + line(2, 4, 0, TEXT) + line(1, 1, 2, [1488, 40, 41])
         + tables([]) + levels(1, [1488]) + line(2, 0, 2, TEXT) + reading([], []))
MIXED_ANSWERS = [1, 0, 6, 0, 13, 1, 1, 1, 41, 2, 0, 1, 6, 0, 1, 1, 2, 2, 1, 1, -1,
                 8, 0, 1, 4, 1, 0, 1, 2, 3, 9, 0, 3, 1489, 1, 49, 2, 50, 0, 1488, 2, 0, 1, 3, 0, 6, 5,
                 3, -2, 0, 1, 1, -1, 1, -1, 1, -1, 1, -4,
                 1, -2, 1, -1, 1, 0, 5, 0, 2, 40, 1, 41,
                 1, 0, 3, 0, 1, 2, 5, 0, 0, 1488, 1, 49, 1, 0]


class Untouchable(list):
    """A list that tells when somebody tries to change it, if only for a while."""

    def refuse(self, *args, **kwargs):
        raise AssertionError("the list that's handed in was changed")

    append = extend = insert = pop = remove = clear = sort = reverse = refuse
    __setitem__ = __delitem__ = __iadd__ = __imul__ = refuse


class GivenBack(unittest.TestCase):
    def test_how_many_numbers_and_these(self):
        self.assertEqual(answers(MIXED), MIXED_ANSWERS)

    def test_the_empty_list(self):
        self.assertEqual(answers([]), [])

    def test_the_parameter_has_its_name(self):
        self.assertEqual(list(inspect.signature(answers).parameters), ["calls"])
        self.assertEqual(answers(calls=[2, 5]), [6, 0, 0, 0, 0, 0, 5])

    def test_a_list_of_whole_numbers(self):
        given = answers(MIXED)
        self.assertIs(type(given), list)
        self.assertEqual({type(number) for number in given}, {int})

    def test_refused_calls_are_read_to_their_end(self):
        found = ask(levels(9, [4, 4, 4]), base([4] * 300), tables([2] * 1000, [3] * 1000, [4] * 1000), looked(3))
        self.assertEqual(found, [[-1], [-1], [-1], [0, 0, 0, 0, 0, 3]])
        found = ask(sequences(9, [4, 4, 4]), line(9, 8, 7, [4] * 300), beside(9, 8, 7, 6, 5, [4] * 3),
                    beside(0, 0, 1, 1, 1, [4]), beside(0, 0, 1, 0, 1, [4]), reading([4] * 1000, [4] * 999), looked(3))
        self.assertEqual(found, [[-1], [-1], [-1], [-4], [-2], [-1], [0, 0, 0, 0, 0, 3]])

    def test_a_number_that_is_no_call(self):
        for call in (0, 9, 4294967295):
            self.assertRaises(UnknownCall, answers, [2, 40, call, 40])


class HandedIn(unittest.TestCase):
    def test_it_is_the_same_afterwards(self):
        handed = list(MIXED)
        answers(handed)
        self.assertEqual(handed, MIXED)

    def test_it_is_not_changed_for_a_while_either(self):
        self.assertEqual(answers(Untouchable(MIXED)), MIXED_ANSWERS)

    def test_what_is_given_back_is_not_what_was_handed_in(self):
        handed = []
        self.assertIsNot(answers(handed), handed)


class Again(unittest.TestCase):
    def test_a_second_time_answers_as_the_first(self):
        self.assertEqual([answers(MIXED) for again in range(3)], [MIXED_ANSWERS] * 3)

    def test_changing_what_was_given_back_changes_no_later_answer(self):
        answers(MIXED).clear()
        self.assertEqual(answers(MIXED), MIXED_ANSWERS)

    def test_no_tables_are_kept_from_one_time_to_the_next(self):
        answers(EXAMPLE_TABLES)
        self.assertEqual(answers(levels(2, [1488])), [3, 0, 0, 0])


class Still(unittest.TestCase):
    def test_nothing_is_printed_read_or_imported(self):
        before = set(sys.modules)
        printed, complained = io.StringIO(), io.StringIO()
        kept = sys.stdin
        sys.stdin = None
        try:
            with contextlib.redirect_stdout(printed), contextlib.redirect_stderr(complained):
                answers(MIXED)
        finally:
            sys.stdin = kept
        self.assertEqual((printed.getvalue(), complained.getvalue()), ("", ""))
        self.assertEqual(set(sys.modules), before)


class Large(unittest.TestCase):
    def test_400_calls(self):
        found = ask(EXAMPLE_TABLES, *[levels(2, [1488, 49])] * 399)
        self.assertEqual(found, [[0]] + [[0, 1, 1, 2]] * 399)

    def test_400_calls_of_all_kinds(self):
        one = [looked(40), base([1488]), levels(2, [1488, 49]), sequences(0, [97]), line(2, 0, 2, [1488, 49]),
               beside(2, 0, 2, 1, 1, [1488, 49]), reading([1, 1], [8, 9]), EXAMPLE_TABLES]
        found = ask(EXAMPLE_TABLES, *(one * 50)[:399])
        expected = [[0, 13, 1, 1, 1, 41], [0, 1], [0, 1, 1, 2], [0, 1, 1, 0, 0], [0, 1, 49, 0, 1488], [0, 0],
                    [0, 9, 8], [0]]
        self.assertEqual(found, [[0]] + (expected * 50)[:399])

    def test_30000_numbers_of_all_kinds(self):
        text = written("RLE LRE " * 62 + "RLE L R " + "AN PDF L " * 43)
        many = len(text)
        self.assertEqual(many, 256)
        high = [125, 126] * 128
        calls = NAMED_TABLES + (line(0, 0, many, text) + beside(0, 0, many, 9, 0, text) + sequences(0, text)
                                + reading(high, text)) * 23
        self.assertTrue(29000 < len(calls) <= 30000, len(calls))
        found = split(answers(calls))
        self.assertEqual(found, found[:1] + found[1:5] * 23)
        self.assertEqual([answer[0] for answer in found[:5]], [0] * 5)
        self.assertEqual(sorted(found[1][1::2]), list(range(256)))

    def test_30000_numbers(self):
        text = written("RLI ( R LRE AN ) NSM PDI") * 32
        calls = NAMED_TABLES + levels(2, text) * 115
        self.assertTrue(29000 < len(calls) <= 30000, len(calls))
        given = answers(calls)
        one = given[2:2 + 259]
        self.assertEqual(given, [1, 0] + one * 115)
        self.assertEqual(one[:3], [258, 0, 0])

    def test_deep_nesting_takes_no_deep_calls(self):
        texts = [written(names) * many for names, many in
                 (("FSI", 256), ("RLI", 256), ("LRO", 256), ("RLI PDI", 128), ("( [", 128))]
        texts.append(written("FSI") * 128 + written("PDI") * 128)
        texts.append(written("(") * 60 + written("R") + written(")") * 60)
        rows = [list(range(127)), list(range(126, -1, -1)), [0, 126] * 128]
        asked = [call for text in texts for call in (levels(2, text), sequences(2, text), line(2, 0, len(text), text),
                                                     beside(2, 0, len(text), 0, 1, text))]
        asked += [reading(row, row) for row in rows]
        calls = NAMED_TABLES + [number for call in asked for number in call]
        kept = sys.getrecursionlimit()
        sys.setrecursionlimit(len(inspect.stack()) + 30)
        try:
            given = answers(calls)
        finally:
            sys.setrecursionlimit(kept)
        found = split(given)
        self.assertEqual(len(found), 1 + 4 * len(texts) + len(rows))
        self.assertEqual([len(answer) for answer in found[1:-3:4]], [len(text) + 2 for text in texts])
        self.assertEqual([len(answer) for answer in found[3:-3:4]], [2 * len(text) + 1 for text in texts])
        self.assertEqual([len(answer) for answer in found[-3:]], [len(row) + 1 for row in rows])


if __name__ == "__main__":
    unittest.main()
