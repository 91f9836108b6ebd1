"""The call beside."""

import unittest

from tests.calling import EXAMPLE_TABLES, NAMED_TABLES, ask, beside, levels, line, written

LARGEST = 4294967295
LEFT = 0
RIGHT = 1
# Seen from the left as 3 1 2 0.
TEXT = [1488, 49, 50, 1489]


def found(*call):
    return ask(EXAMPLE_TABLES, beside(*call))[1]


class Neighbours(unittest.TestCase):
    def check(self, told, first, many, text, seen):
        """Each one's neighbours, when the line is seen in that order."""
        for k, place in enumerate(seen):
            left = [-2] if k == 0 else [0, seen[k - 1]]
            right = [-2] if k == len(seen) - 1 else [0, seen[k + 1]]
            self.assertEqual(found(told, first, many, place, LEFT, text), left)
            self.assertEqual(found(told, first, many, place, RIGHT, text), right)

    def test_one_by_one(self):
        self.assertEqual(found(2, 0, 4, 3, RIGHT, TEXT), [0, 1])
        self.assertEqual(found(2, 0, 4, 1, LEFT, TEXT), [0, 3])
        self.assertEqual(found(2, 0, 4, 2, RIGHT, TEXT), [0, 0])
        self.assertEqual(found(2, 0, 4, 0, LEFT, TEXT), [0, 2])

    def test_all_of_it(self):
        self.check(2, 0, 4, TEXT, [3, 1, 2, 0])
        self.check(0, 0, 3, [97, 98, 99], [0, 1, 2])
        self.check(1, 0, 3, [1488, 1489, 1490], [2, 1, 0])
        self.check(1, 0, 4, [1488, 40, 97, 41], [3, 2, 1, 0])

    def test_a_part_of_it(self):
        self.check(2, 0, 2, TEXT, [1, 0])
        self.check(2, 1, 2, TEXT, [1, 2])
        self.check(2, 1, 3, TEXT, [3, 1, 2])
        self.check(2, 2, 2, TEXT, [3, 2])

    def test_by_the_levels_that_l1_left(self):
        self.check(0, 0, 3, [1488, 32, 1489], [2, 1, 0])
        self.check(0, 0, 2, [1488, 32, 1489], [0, 1])
        self.check(0, 1, 2, [1488, 32, 1489], [2, 1])

    def test_a_line_of_256(self):
        self.check(1, 0, 256, [1488] * 256, list(range(255, -1, -1)))

    def test_the_first_and_the_last_that_are_seen(self):
        self.assertEqual(found(2, 0, 4, 3, LEFT, TEXT), [-2])
        self.assertEqual(found(2, 0, 4, 0, RIGHT, TEXT), [-2])

    def test_a_line_of_one(self):
        for place in range(4):
            for right in (LEFT, RIGHT):
                self.assertEqual(found(2, place, 1, place, right, TEXT), [-2])

    def test_what_is_left_out_is_seen_too(self):
        calls = [beside(0, 0, 3, place, RIGHT, written("R BN R")) for place in (2, 1, 0)]
        self.assertEqual(ask(NAMED_TABLES, *calls)[1:], [[0, 1], [0, 0], [-2]])


class Refused(unittest.TestCase):
    def test_as_line(self):
        for told, first, many, text in ((3, 0, 4, TEXT), (LARGEST, 0, 4, TEXT), (2, 0, 5, TEXT), (2, 4, 1, TEXT),
                                        (2, 5, 0, TEXT), (2, LARGEST, 0, TEXT), (2, 0, LARGEST, TEXT), (2, 1, 0, []),
                                        (2, LARGEST, LARGEST, TEXT), (0, 0, 1, [97] * 257), (0, 0, 1, [97, 55296]),
                                        (0, 0, 1, [1114112]), (0, 0, 1, [LARGEST, 97])):
            answers = ask(EXAMPLE_TABLES, line(told, first, many, text), beside(told, first, many, first, RIGHT, text))
            self.assertEqual(answers[1:], [[-1], [-1]])

    def test_right_above_1(self):
        for right in (2, LARGEST):
            self.assertEqual(found(2, 0, 4, 1, right, TEXT), [-1])

    def test_place_is_not_in_the_line(self):
        for right in (LEFT, RIGHT):
            for place in (0, 3, 4, 5, LARGEST):
                self.assertEqual(found(2, 1, 2, place, right, TEXT), [-4])
            for place in (1, 2):
                self.assertEqual(found(2, 1, 2, place, right, TEXT)[0], [0, -2][place == 1 + right])

    def test_nothing_is_in_an_empty_line(self):
        for first in range(5):
            for place in range(5):
                self.assertEqual(found(2, first, 0, place, RIGHT, TEXT), [-4])
        self.assertEqual(found(0, 0, 0, 0, LEFT, []), [-4])

    def test_minus_1_before_minus_4(self):
        self.assertEqual(found(2, 0, 4, 4, 2, TEXT), [-1])
        self.assertEqual(found(3, 0, 4, 4, RIGHT, TEXT), [-1])
        self.assertEqual(found(2, 2, 3, 0, RIGHT, TEXT), [-1])
        self.assertEqual(found(2, 5, 0, 0, RIGHT, TEXT), [-1])
        self.assertEqual(found(0, 0, 0, 0, 2, []), [-1])
        self.assertEqual(found(0, 0, 1, 9, RIGHT, [55296]), [-1])

    def test_minus_1_before_minus_2(self):
        self.assertEqual(found(2, 0, 1, 0, 2, TEXT), [-1])
        self.assertEqual(found(3, 0, 1, 0, RIGHT, TEXT), [-1])

    def test_minus_4_before_minus_2(self):
        # On neither side of a line of one is there another.
        self.assertEqual(found(2, 0, 1, 1, RIGHT, TEXT), [-4])
        self.assertEqual(found(2, 1, 1, 0, LEFT, TEXT), [-4])

    def test_a_refused_call_keeps_the_tables(self):
        calls = [beside(3, 0, 4, 0, 0, TEXT), beside(2, 0, 4, 4, 0, TEXT), beside(2, 0, 4, 3, 0, TEXT)]
        answers = ask(EXAMPLE_TABLES, *calls, levels(2, TEXT))
        self.assertEqual(answers[1:], [[-1], [-4], [-2], [0, 1, 1, 2, 2, 1]])


if __name__ == "__main__":
    unittest.main()
