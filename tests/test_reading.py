"""The call reading."""

import unittest

from tests.calling import EXAMPLE_TABLES, ask, looked, reading

LARGEST = 4294967295


class Read(unittest.TestCase):
    def check(self, levels, row, expected):
        self.assertEqual(ask(reading(levels, row)), [[0] + expected])

    def test_the_example_of_the_document(self):
        self.check([1, 2, 2, 1], [1489, 49, 50, 1488], [1488, 49, 50, 1489])

    def test_one_level(self):
        self.check([0, 0, 0], [7, 8, 9], [7, 8, 9])
        self.check([1, 1, 1], [7, 8, 9], [9, 8, 7])
        self.check([2, 2, 2], [7, 8, 9], [7, 8, 9])
        self.check([3, 3, 3], [7, 8, 9], [9, 8, 7])

    def test_rows_within_rows(self):
        self.check([0, 1, 1, 0], [5, 6, 7, 8], [5, 7, 6, 8])
        self.check([0, 1, 2, 2, 1, 3, 3, 1], list(range(8)), [0, 7, 5, 6, 4, 3, 2, 1])

    def test_an_order_that_is_not_its_own_way_back(self):
        # Seen, the line is its second, its third, its first.
        self.check([1, 2, 2], [71, 72, 73], [73, 71, 72])
        self.check([0, 1, 2, 2, 0], [1, 2, 3, 4, 5], [1, 4, 2, 3, 5])

    def test_one_number(self):
        for level in (0, 1, 2, 125, 126):
            self.check([level], [9], [9])

    def test_no_numbers(self):
        self.check([], [], [])

    def test_the_row_may_have_any_numbers(self):
        self.check([1, 1, 1, 1], [LARGEST, 55296, 0, 0], [0, 0, 55296, LARGEST])
        self.check([1, 2, 2, 1], [5, 5, 5, 5], [5, 5, 5, 5])

    def test_levels_up_to_126(self):
        self.check([126, 126], [3, 4], [3, 4])
        self.check([125, 126, 126], [71, 72, 73], [73, 71, 72])
        self.check([0, 125, 126, 126, 0], [1, 2, 3, 4, 5], [1, 4, 2, 3, 5])
        self.check(list(range(127)), list(range(0, 127, 2)) + list(range(125, 0, -2)), list(range(127)))

    def test_256_numbers(self):
        self.check([1] * 256, list(range(256)), list(range(255, -1, -1)))
        self.check([126] * 256, list(range(256)), list(range(256)))

    def test_it_goes_by_no_table(self):
        call = reading([1, 1], [40, 41])
        self.assertEqual(ask(call, EXAMPLE_TABLES, call), [[0, 41, 40], [0], [0, 41, 40]])


class Refused(unittest.TestCase):
    def check(self, levels, row):
        found = ask(EXAMPLE_TABLES, reading(levels, row), looked(40), reading([1, 2, 2], [1, 2, 3]))
        self.assertEqual(found[1:], [[-1], [0, 13, 1, 1, 1, 41], [0, 3, 1, 2]])

    def test_more_than_256(self):
        self.check([0] * 257, [0] * 257)
        self.check([0] * 1000, [0] * 1000)

    def test_not_as_many(self):
        self.check([0], [])
        self.check([], [0])
        self.check([0, 1], [5])
        self.check([0, 1], [5, 6, 7])
        self.check([0] * 256, [0] * 257)
        self.check([0] * 257, [0] * 256)

    def test_a_level_above_126(self):
        for level in (127, 128, LARGEST):
            self.check([level], [5])
            self.check([0, level, 0], [5, 6, 7])
            self.check([0, 1, level], [5, 6, 7])


if __name__ == "__main__":
    unittest.main()
