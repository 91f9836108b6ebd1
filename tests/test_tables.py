import unittest

from tests.calling import EXAMPLE_TABLES, ask, base, levels, looked, tables

TOO_LARGE = 1114112
KEPT = [0, 5, 1, 9, 1, 66]


def rows_of_classes(many):
    return [x for n in range(many) for x in (2 * n, 2 * n + 1, n % 23)]


def rows_of_pairs(many):
    return [x for n in range(many) for x in (n, n // 2, n % 2)]


def rows_of_mirrors(many):
    return [x for n in range(many) for x in (n, many - n)]


class Kept(unittest.TestCase):
    def test_answers_nought_alone(self):
        self.assertEqual(ask(EXAMPLE_TABLES), [[0]])

    def test_empty_tables(self):
        self.assertEqual(ask(tables([])), [[0]])

    def test_empty_tables_take_the_place_of_others(self):
        calls = [EXAMPLE_TABLES, tables([]), looked(40), looked(1488), base([1488])]
        self.assertEqual(ask(*calls)[2:], [[0, 0, 0, 0, 0, 40], [0, 0, 0, 0, 0, 1488], [0, 0]])

    def test_all_three_are_put_in_the_place_of_the_old_ones(self):
        calls = [EXAMPLE_TABLES, tables([40, 40, 12]), looked(40)]
        self.assertEqual(ask(*calls)[2], [0, 12, 0, 0, 0, 40])

    def test_levels_go_by_the_tables_kept_last(self):
        calls = [levels(2, [1488]), EXAMPLE_TABLES, levels(2, [1488]), tables([1488, 1488, 3]), levels(1, [1488])]
        found = ask(*calls)
        self.assertEqual([found[0], found[2], found[4]], [[0, 0, 0], [0, 1, 1], [0, 1, 2]])

    def test_tables_are_empty_at_the_beginning(self):
        ask(EXAMPLE_TABLES)
        self.assertEqual(ask(looked(40), looked(1488)), [[0, 0, 0, 0, 0, 40], [0, 0, 0, 0, 0, 1488]])

    def test_256_rows_of_each(self):
        call = tables(rows_of_classes(256), rows_of_pairs(256), rows_of_mirrors(256))
        found = ask(call, looked(0), looked(255), looked(511), looked(512))
        self.assertEqual(found, [[0], [0, 0, 1, 0, 0, 256], [0, 127 % 23, 1, 127, 1, 1],
                                 [0, 255 % 23, 0, 0, 0, 511], [0, 0, 0, 0, 0, 512]])

    def test_the_widest_row(self):
        found = ask(tables([0, 1114111, 1]), looked(0), looked(55295), looked(57344), looked(1114111))
        self.assertEqual(found[0], [0])
        self.assertEqual([answer[1] for answer in found[1:]], [1, 1, 1, 1])

    def test_rows_side_by_side_and_rows_of_one(self):
        found = ask(tables([5, 5, 1, 6, 6, 2, 7, 9, 22]), *[looked(n) for n in range(4, 11)])
        self.assertEqual([answer[1] for answer in found[1:]], [0, 1, 2, 22, 22, 22, 0])

    def test_the_largest_pair_number(self):
        self.assertEqual(ask(tables([], [7, 4294967295, 1]), looked(7))[1], [0, 0, 1, 4294967295, 1, 7])

    def test_each_class_has_its_number(self):
        found = ask(tables([x for n in range(23) for x in (n, n, n)]), *[looked(n) for n in range(23)])
        self.assertEqual([answer[1] for answer in found[1:]], list(range(23)))


class Refused(unittest.TestCase):
    def refusal(self, classes, pairs=(), mirrors=()):
        """The refusal, when what was kept before is kept on."""
        before = tables([65, 65, 5], [65, 9, 1], [65, 66])
        found = ask(before, tables(classes, pairs, mirrors), looked(65), looked(1))
        self.assertEqual(found[0], [0])
        self.assertEqual(found[2], KEPT)
        self.assertEqual(found[3], [0, 0, 0, 0, 0, 1])
        return found[1]

    def test_257_rows_of_one(self):
        self.assertEqual(self.refusal(rows_of_classes(257)), [-1])
        self.assertEqual(self.refusal([], rows_of_pairs(257)), [-1])
        self.assertEqual(self.refusal([], [], rows_of_mirrors(257)), [-1])

    def test_one_number_too_many_is_too_many(self):
        self.assertEqual(self.refusal(rows_of_classes(256) + [1000]), [-1])
        self.assertEqual(self.refusal([], rows_of_pairs(256) + [1000]), [-1])
        self.assertEqual(self.refusal([], [], rows_of_mirrors(256) + [1000]), [-1])

    def test_too_many_goes_before_all_else(self):
        self.assertEqual(self.refusal([1], [2], rows_of_mirrors(257)), [-1])
        self.assertEqual(self.refusal([5, 4, 99], rows_of_pairs(257)), [-1])

    def test_numbers_that_do_not_come_out_in_rows(self):
        self.assertEqual(self.refusal([1]), [-2, 0, 1])
        self.assertEqual(self.refusal(rows_of_classes(255) + [1000, 1000]), [-2, 0, 767])
        self.assertEqual(self.refusal([], [1, 1, 1, 2]), [-2, 1, 4])
        self.assertEqual(self.refusal([], [], [1, 1, 2]), [-2, 2, 3])

    def test_rows_go_before_numbers(self):
        self.assertEqual(self.refusal([9, 8, 7], [], [1]), [-2, 2, 1])
        self.assertEqual(self.refusal([9, 8, 7], [5, 5, 5, 5], [1]), [-2, 1, 4])
        self.assertEqual(self.refusal([9, 8, 7, 6, 5], [5, 5, 5, 5], [1]), [-2, 0, 5])

    def test_lists_go_one_after_another(self):
        self.assertEqual(self.refusal([1, 1, 23], [1, 1, 2], [1, TOO_LARGE]), [-2, 0, 2])
        self.assertEqual(self.refusal([1, 1, 22], [1, 1, 2], [1, TOO_LARGE]), [-2, 1, 2])
        self.assertEqual(self.refusal([1, 1, 22], [1, 1, 1], [1, TOO_LARGE]), [-2, 2, 1])

    def test_from_is_above_the_to_before(self):
        self.assertEqual(self.refusal([1, 4, 1, 4, 5, 1]), [-2, 0, 3])
        self.assertEqual(self.refusal([1, 4, 1, 0, 0, 1]), [-2, 0, 3])
        self.assertEqual(ask(tables([1, 4, 1, 5, 5, 1])), [[0]])

    def test_to_is_not_below_from(self):
        self.assertEqual(self.refusal([5, 4, 1]), [-2, 0, 1])
        self.assertEqual(ask(tables([5, 5, 1])), [[0]])

    def test_from_and_to_are_characters(self):
        for number in (55296, 57343, TOO_LARGE, 4294967295):
            self.assertEqual(self.refusal([number, number, 1]), [-2, 0, 0])
            self.assertEqual(self.refusal([1, number, 1]), [-2, 0, 1])

    def test_a_row_may_reach_across_the_surrogates(self):
        self.assertEqual(ask(tables([55295, 57344, 1]))[0], [0])

    def test_class_is_below_23(self):
        self.assertEqual(self.refusal([1, 1, 22, 2, 2, 23]), [-2, 0, 5])
        self.assertEqual(self.refusal([1, 1, 4294967295]), [-2, 0, 2])

    def test_the_first_wrong_number_of_a_row(self):
        self.assertEqual(self.refusal([TOO_LARGE, 1, 23]), [-2, 0, 0])
        self.assertEqual(self.refusal([2, 1, 23]), [-2, 0, 1])
        self.assertEqual(self.refusal([], [55296, 1, 2]), [-2, 1, 0])
        self.assertEqual(self.refusal([], [], [55296, 55296]), [-2, 2, 0])

    def test_characters_of_pairs_rise(self):
        self.assertEqual(self.refusal([], [3, 1, 1, 3, 1, 0]), [-2, 1, 3])
        self.assertEqual(self.refusal([], [3, 1, 1, 2, 1, 0]), [-2, 1, 3])

    def test_characters_of_pairs_are_characters(self):
        for number in (55296, 57343, TOO_LARGE):
            self.assertEqual(self.refusal([], [3, 1, 1, number, 1, 0]), [-2, 1, 3])
        self.assertEqual(ask(tables([], [0, 1, 1, 1114111, 1, 0])), [[0]])

    def test_whether_it_opens_is_1_or_0(self):
        self.assertEqual(self.refusal([], [3, 1, 1, 4, 1, 2]), [-2, 1, 5])
        self.assertEqual(self.refusal([], [3, 1, 4294967295]), [-2, 1, 2])

    def test_characters_of_mirrors_rise(self):
        self.assertEqual(self.refusal([], [], [3, 1, 3, 1]), [-2, 2, 2])
        self.assertEqual(self.refusal([], [], [3, 1, 2, 1]), [-2, 2, 2])

    def test_both_of_mirrors_are_characters(self):
        for number in (55296, 57343, TOO_LARGE):
            self.assertEqual(self.refusal([], [], [3, 1, number, 1]), [-2, 2, 2])
            self.assertEqual(self.refusal([], [], [3, 1, 4, number]), [-2, 2, 3])
        self.assertEqual(ask(tables([], [], [0, 1114111, 1114111, 0])), [[0]])


class Looked(unittest.TestCase):
    def test_what_the_tables_say(self):
        found = ask(EXAMPLE_TABLES, *[looked(n) for n in (40, 41, 49, 1487, 1488, 1514, 1515, 97)])
        self.assertEqual(found[1:], [[0, 13, 1, 1, 1, 41], [0, 13, 1, 1, 0, 40], [0, 3, 0, 0, 0, 49],
                                     [0, 0, 0, 0, 0, 1487], [0, 1, 0, 0, 0, 1488], [0, 1, 0, 0, 0, 1514],
                                     [0, 0, 0, 0, 0, 1515], [0, 0, 0, 0, 0, 97]])

    def test_the_three_tables_do_not_lean_on_one_another(self):
        found = ask(tables([1, 1, 8], [2, 7, 0], [3, 4]), *[looked(n) for n in range(5)])
        self.assertEqual(found[1:], [[0, 0, 0, 0, 0, 0], [0, 8, 0, 0, 0, 1], [0, 0, 1, 7, 0, 2],
                                     [0, 0, 0, 0, 0, 4], [0, 0, 0, 0, 0, 4]])

    def test_a_bracket_of_the_pair_nought(self):
        self.assertEqual(ask(tables([], [5, 0, 0]), looked(5))[1], [0, 0, 1, 0, 0, 5])

    def test_b_is_looked_up_as_b(self):
        self.assertEqual(ask(tables([10, 10, 10]), looked(10))[1], [0, 10, 0, 0, 0, 10])

    def test_no_character(self):
        for number in (55296, 56000, 57343, 1114112, 4294967295):
            self.assertEqual(ask(looked(number)), [[-1]])

    def test_the_edges_of_characters(self):
        for number in (0, 55295, 57344, 1114111):
            self.assertEqual(ask(looked(number)), [[0, 0, 0, 0, 0, number]])


if __name__ == "__main__":
    unittest.main()
