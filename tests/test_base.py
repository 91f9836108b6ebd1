import unittest

from tests.calling import EXAMPLE_TABLES, ask, base, named_base


class Base(unittest.TestCase):
    def check(self, names, expected):
        self.assertEqual(named_base(names), [0, expected], names)

    def test_the_first_strong_one(self):
        self.check("L R AL", 0)
        self.check("R L", 1)
        self.check("AL L", 1)

    def test_what_is_not_strong_is_skipped(self):
        self.check("EN AN ES ET CS NSM BN B S WS ON R", 1)
        self.check("EN AN ES ET CS NSM BN B S WS ON L R", 0)

    def test_nothing_strong(self):
        self.check("", 0)
        self.check("EN AN ES ET CS NSM BN B S WS ON", 0)

    def test_embeddings_are_skipped_but_not_what_they_hold(self):
        self.check("RLE L PDF R", 0)
        self.check("LRO R PDF L", 1)
        self.check("RLE LRE RLO LRO PDF", 0)

    def test_isolates_are_skipped_with_what_they_hold(self):
        for begin in ("LRI", "RLI", "FSI"):
            self.check(begin + " L PDI R", 1)
            self.check(begin + " R PDI L", 0)
            self.check(begin + " R LRI R PDI R PDI L", 0)
            self.check(begin + " L RLI L PDI L PDI R", 1)

    def test_an_isolate_without_end_goes_to_the_end_of_the_paragraph(self):
        for begin in ("LRI", "RLI", "FSI"):
            self.check(begin + " R", 0)
            self.check(begin + " FSI R PDI R", 0)
            self.check("R " + begin, 1)

    def test_a_pdi_without_begin(self):
        self.check("PDI R", 1)
        self.check("PDI RLI L PDI PDI R", 1)

    def test_a_b_within_ends_neither_text_nor_isolate(self):
        self.check("WS B R", 1)
        self.check("LRI B R", 0)
        self.check("LRI B R PDI AL", 1)

    def test_by_the_tables_of_the_examples(self):
        found = ask(EXAMPLE_TABLES, base([1488, 97]), base([97, 1488]), base([49, 32, 1514]), base([]))
        self.assertEqual(found[1:], [[0, 1], [0, 0], [0, 1], [0, 0]])

    def test_without_tables_all_is_from_the_left(self):
        self.assertEqual(ask(base([1488, 49])), [[0, 0]])

    def test_how_long_a_text_may_be(self):
        self.assertEqual(ask(EXAMPLE_TABLES, base([32] * 255 + [1488]))[1], [0, 1])
        self.assertEqual(ask(EXAMPLE_TABLES, base([1488] * 257))[1], [-1])
        self.assertEqual(ask(EXAMPLE_TABLES, base([1488] * 1000), base([1488]))[1:], [[-1], [0, 1]])

    def test_what_is_no_character(self):
        for number in (55296, 57343, 1114112, 4294967295):
            self.assertEqual(ask(base([1, number, 2])), [[-1]])
            self.assertEqual(ask(base([1, 2, number])), [[-1]])
        for number in (0, 55295, 57344, 1114111):
            self.assertEqual(ask(base([number])), [[0, 0]])


if __name__ == "__main__":
    unittest.main()
