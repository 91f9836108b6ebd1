"""The call line: L1, L2 and the mirrors' table."""

import unittest

from tests.calling import (EXAMPLE_CLASSES, EXAMPLE_PAIRS, EXAMPLE_TABLES, NAMED_TABLES, ask, levels, line, named_line,
                           tables, written)

LARGEST = 4294967295
LEFT_OUT = ("RLE PDF", "LRE PDF", "RLO PDF", "LRO PDF", "PDF", "BN")
BOUNDS = ("LRI PDI", "RLI PDI", "FSI PDI", "PDI")


class LineCase(unittest.TestCase):
    def check(self, told, names, expected):
        self.check_part(told, names, 0, len(names.split()), expected)

    def check_part(self, told, names, first, many, expected):
        self.assertEqual(named_line(told, names, first, many), expected, (told, names, first, many))


class Examples(unittest.TestCase):
    def test_the_examples_of_the_document(self):
        found = ask(EXAMPLE_TABLES, line(2, 0, 4, [1488, 49, 50, 1489]), line(1, 0, 4, [1488, 40, 97, 41]))
        self.assertEqual(found[1:], [[0, 3, 1489, 1, 49, 2, 50, 0, 1488], [0, 3, 40, 2, 97, 1, 41, 0, 1488]])

    def test_parts_of_them(self):
        found = ask(EXAMPLE_TABLES, *[line(2, first, 2, [1488, 49, 50, 1489]) for first in (0, 1, 2)])
        self.assertEqual(found[1:], [[0, 1, 49, 0, 1488], [0, 1, 49, 2, 50], [0, 3, 1489, 2, 50]])
        self.assertEqual(ask(EXAMPLE_TABLES, line(2, 1, 3, [97, 1488, 32, 1489]))[1], [0, 3, 1489, 2, 32, 1, 1488])


class Turned(LineCase):
    def test_one_direction(self):
        self.check(0, "L L L", "0 1 2")
        self.check(1, "R R R", "2' 1' 0'")
        self.check(0, "R R R", "2' 1' 0'")
        self.check(1, "L L L", "0 1 2")

    def test_two_directions(self):
        self.check(0, "L R R L", "0 2' 1' 3")
        self.check(1, "R L L R", "3' 1 2 0'")
        self.check(0, "R R L R", "1' 0' 2 3'")
        self.check(2, "R R L R", "3' 2 1' 0'")

    def test_rows_within_rows(self):
        self.check(0, "L R AN AN R EN EN L", "0 5 6 4' 2 3 1' 7")
        self.check(0, "LRE R L R PDF RLE R L L R L", "0 10 9' 7 8 6' 1' 2 5' 4' 3'")

    def test_numbers_apart_are_turned_apart(self):
        self.check(1, "AN AN R AN AN R", "5' 3 4 2' 0 1")

    def test_what_is_left_out_is_seen_too(self):
        self.check(0, "R BN R L", "2' 1' 0' 3")
        self.check(0, "BN L RLE R PDF L", "0 1 2 4' 3' 5")

    def test_the_highest_levels(self):
        up = "RLE LRE " * 62
        self.check_part(0, up + "RLE L R L", 125, 3, "127 126' 125")
        self.check_part(0, up + "RLE L R L L", 125, 4, "127 128 126' 125")
        self.check_part(0, up + "AN R L", 124, 3, "125' 124 126")
        self.check_part(0, up + "AN AN R AN", 124, 4, "127 126' 124 125")
        self.check_part(0, up + "AN", 124, 1, "124")
        self.check_part(0, up + "R", 124, 1, "124'")

    def test_all_levels_from_0_to_125(self):
        # On level k stand the character at place 2 * k and the begin behind it.
        names = " ".join(["L"] + ["RLE R", "LRE L"] * 62 + ["RLE R"])
        left = [word for k in range(0, 125, 2) for word in (f"{2 * k}", f"{2 * k + 1}")]
        right = [word for k in range(123, 0, -2) for word in (f"{2 * k + 1}'", f"{2 * k}'")]
        self.check(0, names, " ".join(left + ["250'"] + right))


class Mirrors(LineCase):
    TEXT = [1488, 40, 97, 41]

    def test_only_on_odd_levels(self):
        found = ask(EXAMPLE_TABLES, line(0, 0, 3, [97, 40, 41]), line(1, 0, 2, [40, 41]), line(0, 0, 2, [40, 41]))
        self.assertEqual(found[1:], [[0, 0, 97, 1, 40, 2, 41], [0, 1, 40, 0, 41], [0, 0, 40, 1, 41]])

    def test_without_mirrors_each_is_shown_as_itself(self):
        found = ask(tables(EXAMPLE_CLASSES, EXAMPLE_PAIRS), line(1, 0, 4, self.TEXT))
        self.assertEqual(found[1], [0, 3, 41, 2, 97, 1, 40, 0, 1488])

    def test_what_is_shown_is_not_looked_up_again(self):
        found = ask(tables([5, 7, 1], [], [5, 6, 6, 7]), line(1, 0, 3, [5, 6, 7]))
        self.assertEqual(found[1], [0, 2, 7, 1, 7, 0, 6])

    def test_what_is_mirrored_need_be_no_bracket(self):
        found = ask(tables([65, 65, 1], [], [65, 1114111]), line(0, 0, 2, [65, 66]))
        self.assertEqual(found[1], [0, 0, 1114111, 1, 66])

    def test_by_the_levels_that_l1_left(self):
        self.check_part(0, "R WS R", 0, 2, "0' 1")
        self.check_part(1, "L WS L", 0, 2, "1' 0")
        self.check(0, "R S R", "0' 1 2'")
        self.check(1, "L S L", "2 1' 0")


class BaseAgain(LineCase):
    def test_s_and_b_within_a_line(self):
        for name in ("S", "B"):
            self.check(0, f"R {name} R", "0' 1 2'")
            self.check(1, f"L L {name} L L", "3 4 2' 0 1")
            self.check(0, f"R {name} {name} R", "0' 1 2 3'")

    def test_s_and_b_at_the_end(self):
        for name in ("S", "B"):
            self.check_part(0, f"R {name} R", 0, 2, "0' 1")
            self.check_part(0, f"R {name} R", 1, 2, "1 2'")
            self.check_part(1, f"L {name} L", 0, 2, "1' 0")
            self.check_part(0, f"R WS {name} R", 0, 3, "0' 1 2")

    def test_what_gives_way_before_s_and_b(self):
        for name in ("S", "B"):
            for row in ("WS", "WS WS") + BOUNDS + LEFT_OUT:
                many = len(row.split())
                middle = " ".join(str(k + 1) for k in range(many + 1))
                self.check(0, f"R {row} {name} R", f"0' {middle} {many + 2}'")

    def test_what_gives_way_at_the_end(self):
        for row in ("WS", "WS WS") + BOUNDS + LEFT_OUT:
            many = len(row.split())
            middle = " ".join(str(k + 1) for k in range(many))
            self.check_part(0, f"R {row} R", 0, many + 1, f"0' {middle}")

    def test_all_of_them_in_one_row(self):
        row = "WS RLE PDF LRI PDI BN PDI WS LRO PDF FSI PDI"
        self.check_part(0, f"R {row} R", 0, 13, "0' 1 2 3 4 5 6 7 8 9 10 11 12")
        self.check(0, f"R {row} S R", "0' 1 2 3 4 5 6 7 8 9 10 11 12 13 14'")
        self.check(0, f"R {row} R", "13' 12' 11' 10' 9' 8' 7' 6' 5' 4' 3' 2' 1' 0'")

    def test_not_behind_s_nor_at_the_beginning(self):
        self.check(0, "R S WS R", "0' 1 3' 2'")
        self.check(0, "R S BN R", "0' 1 3' 2'")
        self.check_part(0, "R WS R", 1, 2, "2' 1'")

    def test_other_classes_do_not_give_way(self):
        for name in ("ON", "CS", "ES", "ET", "NSM", "R", "AL"):
            self.check_part(0, f"R {name} R", 0, 2, "1' 0'")
            self.check(0, f"R {name} S R", "1' 0' 2 3'")
            self.check_part(0, f"R WS {name} WS R", 0, 4, "2' 1' 0' 3")

    def test_the_classes_are_those_at_first(self):
        # The mark is a WS for the rules, and the forced blank is an R for them.
        self.check_part(0, "R WS NSM R", 0, 3, "2' 1' 0'")
        self.check(0, "RLO WS S L PDF", "0 1 2 3' 4")
        self.check_part(0, "RLO L LRI PDI L PDF", 1, 3, "1' 2 3")
        self.check_part(1, "LRO R WS R", 1, 2, "2' 1")

    def test_the_base_is_that_of_the_paragraph(self):
        self.check_part(2, "R L WS L", 2, 1, "2'")
        self.check_part(2, "R L WS L", 1, 2, "2' 1")
        self.check_part(2, "L R WS R", 1, 2, "1' 2")
        self.check_part(0, "RLE LRE L WS L", 2, 2, "2 3")
        self.check_part(1, "LRE L WS R", 1, 2, "2' 1")


class Parts(LineCase):
    def test_levels_are_told_by_the_whole_paragraph(self):
        self.check_part(0, "AL WS EN ES EN", 2, 3, "4 3' 2")
        self.check_part(0, "EN ES EN", 0, 3, "0 1 2")
        self.check_part(0, "R ON R", 1, 1, "1'")
        self.check_part(0, "R ( R ) L", 3, 1, "3'")
        self.check_part(2, "R L", 1, 1, "1")

    def test_within_a_row_of_blanks(self):
        self.check_part(0, "R WS WS WS R", 0, 2, "0' 1")
        self.check_part(0, "R WS WS WS R", 0, 3, "0' 1 2")
        self.check_part(0, "R WS WS WS R", 2, 3, "4' 3' 2'")
        self.check_part(0, "R WS WS WS R", 1, 2, "1 2")
        self.check_part(1, "L WS WS WS L", 1, 2, "2' 1'")
        self.check_part(1, "L WS WS WS L", 2, 3, "2 3 4")

    def test_within_an_isolate(self):
        names = "L RLI R WS R PDI L"
        self.check(0, names, "0 1 4' 3' 2' 5 6")
        self.check_part(0, names, 0, 4, "0 1 2' 3")
        self.check_part(0, names, 3, 4, "4' 3' 5 6")
        self.check_part(0, names, 2, 3, "4' 3' 2'")
        self.check_part(0, names, 3, 1, "3")

    def test_between_an_isolates_bounds(self):
        names = "R LRI L PDI R"
        self.check(0, names, "4' 3' 2 1' 0'")
        self.check_part(0, names, 0, 2, "0' 1")
        self.check_part(0, names, 0, 4, "2 1' 0' 3")
        self.check_part(0, names, 1, 4, "4' 3' 2 1'")
        self.check_part(0, names, 3, 2, "4' 3'")

    def test_within_a_row_of_what_is_left_out(self):
        for name in ("BN", "PDF"):
            names = f"R {name} {name} {name} R"
            self.check_part(0, names, 0, 2, "0' 1")
            self.check_part(0, names, 1, 2, "1 2")
            self.check_part(0, names, 2, 3, "4' 3' 2'")
        self.check_part(0, "R RLE LRE PDF PDF R", 0, 3, "0' 1 2")
        self.check_part(0, "R RLE LRE PDF PDF R", 3, 3, "5' 4' 3'")

    def test_one_character(self):
        for told in (0, 1, 2):
            self.check(told, "L", "0")
            self.check(told, "R", "0'")
        for name in ("WS", "S", "B", "BN", "RLE", "RLI", "PDI", "ON"):
            self.check(0, name, "0")
            self.check(1, name, "0'")
        self.check_part(0, "R WS R", 1, 1, "1")
        self.check_part(1, "L WS L", 1, 1, "1'")
        self.check_part(1, "L ON L", 1, 1, "1")

    def test_an_empty_line(self):
        for first in range(5):
            self.check_part(2, "R WS L S", first, 0, "")

    def test_an_empty_text(self):
        self.assertEqual(ask(*[line(told, 0, 0, []) for told in (0, 1, 2)]), [[0]] * 3)

    def test_the_longest_text(self):
        text = [1488] * 256
        found = ask(EXAMPLE_TABLES, line(2, 0, 256, text), line(2, 255, 1, text), line(2, 256, 0, text))
        self.assertEqual(found[1][1::2], list(range(255, -1, -1)))
        self.assertEqual(found[2:], [[0, 255, 1488], [0]])


class Refused(unittest.TestCase):
    def refused(self, *call):
        text = written("R WS L")
        found = ask(NAMED_TABLES, levels(2, text), line(*call), levels(2, text))
        self.assertEqual(found[2], [-1], call)
        self.assertEqual(found[3], found[1])

    def test_told_above_2(self):
        for told in (3, LARGEST):
            self.refused(told, 0, 1, [65])
            self.refused(told, 0, 0, [])

    def test_the_text(self):
        self.refused(0, 0, 1, [65] * 257)
        self.refused(0, 0, 0, [65] * 1000)
        for number in (55296, 57343, 1114112, LARGEST):
            self.refused(0, 0, 1, [65, number])
            self.refused(2, 1, 0, [number])

    def test_there_are_not_so_many(self):
        for first, many in ((0, 4), (1, 3), (2, 2), (3, 1), (0, LARGEST), (3, LARGEST)):
            self.refused(0, first, many, [65, 66, 67])
        self.refused(0, 0, 1, [])
        self.refused(0, 0, 257, [65] * 256)

    def test_first_above_the_text(self):
        for first in (4, 5, LARGEST):
            for many in (0, 1, LARGEST):
                self.refused(0, first, many, [65, 66, 67])
        self.refused(0, 1, 0, [])
        self.refused(0, 257, 0, [65] * 256)


if __name__ == "__main__":
    unittest.main()
