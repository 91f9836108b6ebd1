"""The call levels: numbers and marks (W1 to W7), neutrals (N1, N2), levels (I1, I2), refusals."""

import unittest

from tests.calling import EXAMPLE_TABLES, LevelsCase, ask, levels, named_levels


class Examples(unittest.TestCase):
    def test_the_examples_of_the_document(self):
        found = ask(EXAMPLE_TABLES, levels(2, [1488, 49, 50, 1489]), levels(2, [97, 1488, 32, 1489]),
                    levels(1, [1488, 40, 97, 41]))
        self.assertEqual(found[1:], [[0, 1, 1, 2, 2, 1], [0, 0, 0, 1, 1, 1], [0, 1, 1, 1, 2, 1]])


class Told(unittest.TestCase):
    def test_the_base_is_told_or_found(self):
        self.assertEqual(named_levels(0, "R L"), [0, 0, 1, 0])
        self.assertEqual(named_levels(1, "R L"), [0, 1, 1, 2])
        self.assertEqual(named_levels(2, "R L"), [0, 1, 1, 2])
        self.assertEqual(named_levels(2, "L R"), [0, 0, 0, 1])
        self.assertEqual(named_levels(2, "RLI R PDI"), [0, 0, 0, 1, 0])

    def test_told_above_2(self):
        self.assertEqual(named_levels(3, "R L"), [-1])
        self.assertEqual(named_levels(4294967295, ""), [-1])

    def test_an_empty_text(self):
        self.assertEqual([named_levels(told, "") for told in (0, 1, 2, 3)], [[0, 0], [0, 1], [0, 0], [-1]])

    def test_without_tables_all_is_from_the_left(self):
        self.assertEqual(ask(levels(0, [1488, 40]), levels(1, [1488, 40]), levels(2, [1488])),
                         [[0, 0, 0, 0], [0, 1, 2, 2], [0, 0, 0]])

    def test_how_long_a_text_may_be(self):
        self.assertEqual(ask(EXAMPLE_TABLES, levels(2, [1488] * 256))[1], [0, 1] + [1] * 256)
        self.assertEqual(ask(EXAMPLE_TABLES, levels(2, [1488] * 257))[1], [-1])
        self.assertEqual(ask(levels(0, [7] * 1000), levels(0, [7])), [[-1], [0, 0, 0]])

    def test_what_is_no_character(self):
        for number in (55296, 57343, 1114112, 4294967295):
            self.assertEqual(ask(levels(0, [number]), levels(2, [1, number])), [[-1], [-1]])
        self.assertEqual(ask(levels(0, [0, 55295, 57344, 1114111])), [[0, 0, 0, 0, 0, 0]])


class NumbersAndMarks(LevelsCase):
    def test_w1_a_mark_is_as_what_is_before_it(self):
        self.check(0, "R NSM NSM L NSM", [1, 1, 1, 0, 0])
        self.check(1, "EN NSM AN NSM", [2, 2, 2, 2])
        self.check(1, "EN NSM ES NSM EN", [2, 2, 1, 1, 2])
        self.check(1, "EN ET NSM R", [2, 2, 2, 1])
        self.check(0, "AL NSM EN ES EN", [1, 1, 2, 1, 2])

    def test_w1_at_the_beginning(self):
        self.check(0, "NSM R", [0, 1])
        self.check(1, "NSM L", [1, 2])
        self.check(0, "RLE R PDF NSM L", [0, 1, 1, 1, 0])

    def test_w1_behind_bounds_of_isolates(self):
        # As ON, the mark that stands in the pairs' table is a bracket; as LRI or PDI it would be none.
        self.check(0, "R LRI PDI nsm( R ) L", [1, 1, 1, 1, 1, 1, 0])
        self.check(0, "R PDI nsm( R ) L", [1, 1, 1, 1, 1, 0])
        self.check(0, "R LRI L PDI NSM L", [1, 0, 2, 0, 0, 0])
        self.check(0, "R LRI NSM PDI L", [1, 0, 2, 0, 0])

    def test_w2_digits_behind_al(self):
        self.check(0, "AL EN ES EN", [1, 2, 1, 2])
        self.check(0, "AL WS EN ET", [1, 1, 2, 0])
        self.check(0, "AL EN CS EN", [1, 2, 2, 2])
        self.check(0, "AL R EN ES EN", [1, 1, 2, 2, 2])
        self.check(0, "AL L EN ES EN", [1, 0, 0, 0, 0])
        self.check(1, "EN ES EN AL", [2, 2, 2, 1])

    def test_w3_al_is_r(self):
        self.check(0, "AL", [1])
        self.check(1, "AL ON AL", [1, 1, 1])
        self.check(0, "AL ON R", [1, 1, 1])

    def test_w4_one_sign_between_two_numbers(self):
        self.check(1, "EN ES EN ES EN", [2, 2, 2, 2, 2])
        self.check(1, "EN CS EN", [2, 2, 2])
        self.check(1, "AN CS AN", [2, 2, 2])
        self.check(1, "AN ES AN", [2, 1, 2])
        self.check(1, "EN CS AN", [2, 1, 2])
        self.check(1, "AN CS EN", [2, 1, 2])
        self.check(1, "EN ES ES EN", [2, 1, 1, 2])
        self.check(1, "EN CS CS EN", [2, 1, 1, 2])
        self.check(1, "EN ES CS EN", [2, 1, 1, 2])
        self.check(1, "ES EN ES", [1, 2, 1])
        self.check(1, "ES EN", [1, 2])
        self.check(1, "EN CS", [2, 1])
        self.check(1, "R ES EN", [1, 1, 2])
        self.check(0, "AL EN CS L EN", [1, 2, 0, 0, 0])

    def test_w5_rows_of_et_beside_a_digit(self):
        self.check(1, "ET ET EN", [2, 2, 2])
        self.check(1, "EN ET ET", [2, 2, 2])
        self.check(1, "EN ET", [2, 2])
        self.check(1, "EN R ET", [2, 1, 1])
        self.check(1, "ET R EN", [1, 1, 2])
        self.check(1, "AN ET ET EN", [2, 2, 2, 2])
        self.check(1, "AN ET", [2, 1])
        self.check(1, "ET ET AN", [1, 1, 2])
        self.check(1, "ET WS EN", [1, 1, 2])
        self.check(1, "EN ES ET EN", [2, 1, 2, 2])
        self.check(1, "EN ET ES EN", [2, 2, 1, 2])
        self.check(0, "AL EN ET R", [1, 2, 1, 1])

    def test_w6_what_is_left_is_neutral(self):
        for sign in ("ES", "ET", "CS"):
            self.check(0, f"R {sign} R", [1, 1, 1])
            self.check(0, f"L {sign} R", [0, 0, 1])
            self.check(1, f"L {sign} L", [2, 2, 2])
            self.check(1, sign, [1])

    def test_w7_digits_behind_l(self):
        self.check(0, "L EN", [0, 0])
        self.check(1, "L EN R EN", [2, 2, 1, 2])
        self.check(0, "R EN L EN", [1, 2, 0, 0])
        self.check(0, "L WS EN ET", [0, 0, 0, 0])
        self.check(1, "L WS EN", [2, 2, 2])
        self.check(0, "L AN EN", [0, 2, 0])

    def test_w7_the_beginning_counts(self):
        self.check(0, "EN", [0])
        self.check(1, "EN", [2])
        self.check(0, "RLE R PDF EN", [0, 1, 1, 2])
        self.check(0, "LRE L PDF EN", [0, 2, 2, 0])


class Neutrals(LevelsCase):
    NEUTRALS = ("B", "S", "WS", "ON", "PDI", "LRI PDI", "RLI PDI", "FSI PDI", "B S WS ON PDI")

    def test_n1_between_two_of_one_direction(self):
        for row in self.NEUTRALS:
            many = len(row.split())
            self.check(0, f"R {row} R", [1] + [1] * many + [1])
            self.check(1, f"L {row} L", [2] + [2] * many + [2])

    def test_n2_else_the_direction_of_the_level(self):
        for row in self.NEUTRALS:
            many = len(row.split())
            self.check(0, f"L {row} R", [0] + [0] * many + [1])
            self.check(0, f"R {row} L", [1] + [0] * many + [0])
            self.check(1, f"L {row} R", [2] + [1] * many + [1])
            self.check(1, f"R {row} L", [1] + [1] * many + [2])

    def test_n1_numbers_count_as_from_the_right(self):
        self.check(0, "R ON AN", [1, 1, 2])
        self.check(0, "AN ON R", [2, 1, 1])
        self.check(0, "R EN ON AN", [1, 2, 1, 2])
        self.check(0, "R EN ON EN", [1, 2, 1, 2])
        self.check(1, "L ON AN", [2, 1, 2])

    def test_n1_the_ends_count(self):
        self.check(0, "ON", [0])
        self.check(1, "ON", [1])
        self.check(1, "ON L", [1, 2])
        self.check(0, "WS L WS R WS", [0, 0, 0, 1, 0])
        self.check(1, "WS R WS L WS", [1, 1, 1, 2, 1])
        self.check(0, "RLE LRE L PDF ON L", [0, 0, 2, 2, 2, 2])

    def test_n1_behind_an_isolate_without_end(self):
        self.check(0, "R ON RLI", [1, 0, 0])
        self.check(1, "R ON RLI", [1, 1, 1])


class LastRule(LevelsCase):
    def test_on_an_even_level(self):
        self.check(0, "L R AN R EN", [0, 1, 2, 1, 2])
        self.check(0, "LRE L R AN R EN", [0, 2, 3, 4, 3, 4])

    def test_on_an_odd_level(self):
        self.check(1, "R L R AN R EN", [1, 2, 1, 2, 1, 2])
        self.check(0, "RLE RLE R L R AN R EN", [0, 0, 3, 4, 3, 4, 3, 4])


if __name__ == "__main__":
    unittest.main()
