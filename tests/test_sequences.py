"""The call sequences (X10)."""

import unittest

from tests.calling import EXAMPLE_TABLES, NAMED_TABLES, ask, named_sequences, sequences, written


class SequencesCase(unittest.TestCase):
    def check(self, told, names, *expected):
        """Each of the expected is a level and the places, in words."""
        answer = [0, len(expected)]
        for level, places in expected:
            places = [int(place) for place in places.split()]
            answer += [len(places), level] + places
        self.assertEqual(named_sequences(told, names), answer, names)


class Runs(SequencesCase):
    def test_one_level_is_one_sequence(self):
        self.check(0, "L R AL EN AN ES ET CS NSM S WS ON", (0, "0 1 2 3 4 5 6 7 8 9 10 11"))
        self.check(1, "L R", (1, "0 1"))

    def test_the_level_is_that_of_begins_and_ends(self):
        self.check(0, "R EN", (0, "0 1"))
        self.check(2, "R EN L", (1, "0 1 2"))
        self.check(2, "L R", (0, "0 1"))

    def test_a_level_of_its_own_is_a_sequence_of_its_own(self):
        self.check(0, "L RLE R PDF L", (0, "0"), (1, "2"), (0, "4"))
        self.check(0, "L LRO R PDF", (0, "0"), (2, "2"))
        self.check(1, "RLE R LRE L PDF R PDF R", (3, "1"), (4, "3"), (3, "5"), (1, "7"))

    def test_begins_side_by_side_of_one_level_are_one_run(self):
        self.check(0, "RLE R PDF RLE R PDF", (1, "1 4"))
        self.check(0, "RLE R PDF RLO R PDF", (1, "1 4"))

    def test_a_b_within_counts_as_s(self):
        self.check(0, "RLE R B R", (1, "1 2 3"))
        self.check(0, "RLI B PDI B", (0, "0 2 3"), (1, "1"))


class Isolates(SequencesCase):
    def test_a_sequence_goes_on_behind_an_isolate(self):
        for begin in ("RLI", "FSI"):
            self.check(0, f"L {begin} R PDI L", (0, "0 1 3 4"), (1, "2"))
        self.check(0, "L LRI R PDI L", (0, "0 1 3 4"), (2, "2"))
        self.check(0, "FSI L PDI", (0, "0 2"), (2, "1"))

    def test_several_isolates(self):
        self.check(0, "R LRI L PDI LRI L PDI R", (0, "0 1 3 4 6 7"), (2, "2"), (2, "5"))
        self.check(0, "RLI R PDI ON RLI R PDI", (0, "0 2 3 4 6"), (1, "1"), (1, "5"))

    def test_nested_isolates(self):
        self.check(0, "L RLI R LRI L PDI R PDI L", (0, "0 1 7 8"), (1, "2 3 5 6"), (2, "4"))
        self.check(0, "RLI RLI RLI R PDI PDI PDI", (0, "0 6"), (1, "1 5"), (3, "2 4"), (5, "3"))

    def test_nothing_within(self):
        self.check(0, "L RLI PDI L", (0, "0 1 2 3"))
        self.check(0, "RLI LRI PDI PDI", (0, "0 3"), (1, "1 2"))

    def test_an_isolate_without_end(self):
        self.check(0, "L RLI R", (0, "0 1"), (1, "2"))
        self.check(0, "L RLI", (0, "0 1"))
        self.check(0, "RLI LRI R PDI R", (0, "0"), (1, "1 3 4"), (2, "2"))
        self.check(0, "LRI RLI R", (0, "0"), (2, "1"), (3, "2"))

    def test_a_pdi_without_begin(self):
        self.check(0, "L PDI L", (0, "0 1 2"))
        self.check(0, "PDI", (0, "0"))
        self.check(0, "RLE R PDF PDI L", (1, "1"), (0, "3 4"))
        self.check(0, "RLI R PDI PDI L", (0, "0 2 3 4"), (1, "1"))
        self.check(0, "RLE LRI L PDI PDI R", (1, "1 3 4 5"), (2, "2"))

    def test_embeddings_within_an_isolate_end_with_it(self):
        self.check(0, "L RLI RLE R PDI L", (0, "0 1 4 5"), (3, "3"))
        self.check(0, "RLI R LRE L PDI L", (0, "0 4 5"), (1, "1"), (2, "3"))

    def test_an_embedding_parts_a_sequence_but_an_isolate_does_not(self):
        self.check(0, "R LRE L PDF LRI L PDI R", (0, "0"), (2, "2"), (0, "4 6 7"), (2, "5"))

    def test_bounds_with_a_forced_class_are_bounds_still(self):
        self.check(0, "RLO R LRI L PDI R PDF", (1, "1 2 4 5"), (2, "3"))

    def test_a_refused_isolate_is_in_the_sequence_around_it(self):
        self.check(0, "RLI " * 63 + "LRI L PDI", *[(max(0, 2 * k - 1), f"{k}") for k in range(63)],
                   (125, "63 64 65"))

    def test_in_the_order_of_their_first_characters(self):
        answer = named_sequences(0, "RLI LRI L PDI LRE L PDF PDI R LRE L PDF R")
        self.assertEqual(answer, [0, 6, 3, 0, 0, 7, 8, 2, 1, 1, 3, 1, 2, 2, 1, 2, 5, 1, 2, 10, 1, 0, 12])


class LeftOut(SequencesCase):
    def test_it_is_in_no_sequence(self):
        self.check(0, "L BN RLE PDF L", (0, "0 4"))
        self.check(0, "BN RLE LRE RLO LRO PDF PDF PDF PDF L", (0, "9"))
        self.check(0, "R BN", (0, "0"))

    def test_it_parts_no_bounds(self):
        self.check(0, "RLI BN PDI", (0, "0 2"))
        self.check(0, "RLI BN R BN PDI", (0, "0 4"), (1, "2"))
        self.check(0, "RLI R BN PDI BN L", (0, "0 3 5"), (1, "1"))

    def test_a_text_that_is_left_out_as_a_whole(self):
        for names in ("BN", "RLE", "LRE", "RLO", "LRO", "PDF", "BN RLE LRO BN PDF", "BN " * 256):
            for told in (0, 1, 2):
                self.assertEqual(named_sequences(told, names), [0, 0])


class Edges(unittest.TestCase):
    def test_an_empty_text(self):
        self.assertEqual([named_sequences(told, "") for told in (0, 1, 2)], [[0, 0]] * 3)

    def test_the_highest_level(self):
        self.assertEqual(named_sequences(0, "RLE LRE " * 63 + "R L"), [0, 1, 2, 125, 126, 127])
        self.assertEqual(named_sequences(0, "LRI " * 62 + "RLI L")[-3:], [1, 125, 63])

    def test_as_many_as_can_be(self):
        answer = named_sequences(0, "LRE L PDF L " * 64)
        self.assertEqual(answer[:10], [0, 128, 1, 2, 1, 1, 0, 3, 1, 2])
        self.assertEqual(len(answer), 2 + 128 * 3)
        deep = named_sequences(0, "RLI " * 62 + "R " + "PDI " * 62)
        self.assertEqual(deep[:6], [0, 63, 2, 0, 0, 124])
        self.assertEqual(deep[-7:], [2, 121, 61, 63, 1, 123, 62])

    def test_how_long_a_text_may_be(self):
        self.assertEqual(ask(sequences(0, [97] * 256)), [[0, 1, 256, 0] + list(range(256))])
        self.assertEqual(ask(sequences(0, [97] * 257), sequences(2, [97] * 1000)), [[-1], [-1]])

    def test_without_tables_all_is_one_sequence(self):
        self.assertEqual(ask(sequences(1, [1488, 40, 97])), [[0, 1, 3, 1, 0, 1, 2]])

    def test_by_the_tables_of_the_examples(self):
        found = ask(EXAMPLE_TABLES, sequences(2, [1488, 49, 50, 1489]), sequences(2, [97, 1488]))
        self.assertEqual(found[1:], [[0, 1, 4, 1, 0, 1, 2, 3], [0, 1, 2, 0, 0, 1]])


class Refused(unittest.TestCase):
    def test_told_above_2(self):
        for told in (3, 4294967295):
            self.assertEqual(named_sequences(told, "R L"), [-1])
            self.assertEqual(named_sequences(told, ""), [-1])

    def test_what_is_no_character(self):
        for number in (55296, 57343, 1114112, 4294967295):
            self.assertEqual(ask(sequences(0, [number]), sequences(2, [1, number])), [[-1], [-1]])
        self.assertEqual(ask(sequences(0, [0, 55295, 57344, 1114111])), [[0, 1, 4, 0, 0, 1, 2, 3]])

    def test_a_refused_call_keeps_the_tables(self):
        text = written("L RLI R PDI L")
        found = ask(NAMED_TABLES, sequences(0, text), sequences(3, text), sequences(0, [55296]), sequences(0, text))
        self.assertEqual(found[2:4], [[-1], [-1]])
        self.assertEqual(found[4], found[1])


if __name__ == "__main__":
    unittest.main()
