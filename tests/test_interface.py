"""The list that's handed in and the list that's given back."""

import contextlib
import inspect
import io
import sys
import unittest

from tests.calling import EXAMPLE_TABLES, NAMED_TABLES, ask, base, levels, looked, tables, written
from writtenways.directions import answers

MIXED = (EXAMPLE_TABLES + looked(40) + base([1488]) + levels(2, [1488, 49, 50, 1489]) + looked(55296)
         + tables([1]) + levels(3, []) + tables([]) + levels(1, [1488]))
MIXED_ANSWERS = [1, 0, 6, 0, 13, 1, 1, 1, 41, 2, 0, 1, 6, 0, 1, 1, 2, 2, 1, 1, -1,
                 3, -2, 0, 1, 1, -1, 1, 0, 3, 0, 1, 2]


class Untouchable(list):
    """A list that tells when somebody tries to change it, if only for a while."""

    def refuse(self, *args, **kwargs):
        raise AssertionError("the list that's handed in was changed")

    append = extend = insert = pop = remove = clear = sort = reverse = refuse
    __setitem__ = __delitem__ = __iadd__ = __imul__ = refuse


class GivenBack(unittest.TestCase):
    def test_how_many_numbers_and_these(self):
        self.assertEqual(answers(MIXED), MIXED_ANSWERS)

    def test_the_empty_list(self):
        self.assertEqual(answers([]), [])

    def test_the_parameter_has_its_name(self):
        self.assertEqual(list(inspect.signature(answers).parameters), ["calls"])
        self.assertEqual(answers(calls=[2, 5]), [6, 0, 0, 0, 0, 0, 5])

    def test_a_list_of_whole_numbers(self):
        given = answers(MIXED)
        self.assertIs(type(given), list)
        self.assertEqual({type(number) for number in given}, {int})

    def test_refused_calls_are_read_to_their_end(self):
        found = ask(levels(9, [4, 4, 4]), base([4] * 300), tables([2] * 1000, [3] * 1000, [4] * 1000), looked(3))
        self.assertEqual(found, [[-1], [-1], [-1], [0, 0, 0, 0, 0, 3]])


class HandedIn(unittest.TestCase):
    def test_it_is_the_same_afterwards(self):
        handed = list(MIXED)
        answers(handed)
        self.assertEqual(handed, MIXED)

    def test_it_is_not_changed_for_a_while_either(self):
        self.assertEqual(answers(Untouchable(MIXED)), MIXED_ANSWERS)

    def test_what_is_given_back_is_not_what_was_handed_in(self):
        handed = []
        self.assertIsNot(answers(handed), handed)


class Again(unittest.TestCase):
    def test_a_second_time_answers_as_the_first(self):
        self.assertEqual([answers(MIXED) for again in range(3)], [MIXED_ANSWERS] * 3)

    def test_changing_what_was_given_back_changes_no_later_answer(self):
        answers(MIXED).clear()
        self.assertEqual(answers(MIXED), MIXED_ANSWERS)

    def test_no_tables_are_kept_from_one_time_to_the_next(self):
        answers(EXAMPLE_TABLES)
        self.assertEqual(answers(levels(2, [1488])), [3, 0, 0, 0])


class Still(unittest.TestCase):
    def test_nothing_is_printed_read_or_imported(self):
        before = set(sys.modules)
        printed, complained = io.StringIO(), io.StringIO()
        kept = sys.stdin
        sys.stdin = None
        try:
            with contextlib.redirect_stdout(printed), contextlib.redirect_stderr(complained):
                answers(MIXED)
        finally:
            sys.stdin = kept
        self.assertEqual((printed.getvalue(), complained.getvalue()), ("", ""))
        self.assertEqual(set(sys.modules), before)


class Large(unittest.TestCase):
    def test_400_calls(self):
        found = ask(EXAMPLE_TABLES, *[levels(2, [1488, 49])] * 399)
        self.assertEqual(found, [[0]] + [[0, 1, 1, 2]] * 399)

    def test_30000_numbers(self):
        text = written("RLI ( R LRE AN ) NSM PDI") * 32
        calls = NAMED_TABLES + levels(2, text) * 115
        self.assertTrue(29000 < len(calls) <= 30000, len(calls))
        given = answers(calls)
        one = given[2:2 + 259]
        self.assertEqual(given, [1, 0] + one * 115)
        self.assertEqual(one[:3], [258, 0, 0])

    def test_deep_nesting_takes_no_deep_calls(self):
        texts = [written(names) * many for names, many in
                 (("FSI", 256), ("RLI", 256), ("LRO", 256), ("RLI PDI", 128), ("( [", 128))]
        texts.append(written("FSI") * 128 + written("PDI") * 128)
        texts.append(written("(") * 60 + written("R") + written(")") * 60)
        calls = NAMED_TABLES + [number for text in texts for number in levels(2, text)]
        kept = sys.getrecursionlimit()
        sys.setrecursionlimit(len(inspect.stack()) + 30)
        try:
            given = answers(calls)
        finally:
            sys.setrecursionlimit(kept)
        self.assertEqual(len(given), 2 + sum(len(text) + 3 for text in texts))


if __name__ == "__main__":
    unittest.main()
