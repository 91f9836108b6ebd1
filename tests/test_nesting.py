"""Begins and ends (X1 to X8), what's left out (X9), sequences (X10)."""

import unittest

from tests.calling import LevelsCase, named_levels

# As many begins as there are levels: each is one level above the one before, from base 0 on.
UP = ["RLE", "LRE"] * 63


def up_to(level):
    return " ".join(UP[:level])


class Embeddings(LevelsCase):
    def test_the_next_odd_or_even_level(self):
        self.check(0, "RLE R", [0, 1])
        self.check(0, "LRE L", [0, 2])
        self.check(1, "RLE R", [1, 3])
        self.check(1, "LRE L", [1, 2])
        self.check(0, "RLO WS", [0, 1])
        self.check(0, "LRO WS", [0, 2])
        self.check(0, "RLE LRE RLE RLE LRE LRE L", [0, 0, 0, 0, 0, 0, 8])

    def test_pdf_takes_the_last_away(self):
        self.check(0, "RLE L PDF L", [0, 2, 2, 0])
        self.check(0, "RLE LRE R PDF R PDF R", [0, 0, 3, 3, 1, 1, 1])
        self.check(1, "LRE L PDF R", [1, 2, 2, 1])

    def test_pdf_without_begin(self):
        self.check(0, "PDF PDF RLE L PDF PDF PDF L", [0, 0, 0, 2, 2, 2, 2, 0])

    def test_forced_classes(self):
        self.check(0, "RLO L EN AN ON NSM PDF L", [0, 1, 1, 1, 1, 1, 1, 0])
        self.check(1, "LRO R AL EN AN WS PDF R", [1, 2, 2, 2, 2, 2, 2, 1])

    def test_what_is_forced_counts_as_strong(self):
        self.check(0, "LRE R PDF LRO ON PDF LRE EN", [0, 3, 3, 3, 2, 2, 2, 2])
        self.check(0, "RLE L PDF RLO ON PDF RLE ( L )", [0, 2, 2, 2, 1, 1, 1, 1, 2, 1])

    def test_an_embedding_within_an_override_forces_nothing(self):
        self.check(0, "RLO LRE R PDF L", [0, 0, 3, 3, 1])
        self.check(0, "RLO LRI R PDI L", [0, 1, 3, 1, 1])

    def test_bounds_of_isolates_are_forced_too(self):
        forced = "RLE L PDF RLO {} PDI PDF RLE L"
        for begin in ("LRI", "RLI", "FSI"):
            self.check(0, forced.format(begin), [0, 2, 2, 2, 1, 1, 1, 1, 2])
        self.check(0, "RLE L PDF RLE LRI PDI PDF RLE L", [0, 2, 2, 2, 2, 2, 2, 2, 2])

    def test_bn_is_not_forced(self):
        # A forced BN would stand as R before the neutral; left out it leaves L before it.
        self.check(0, "RLE L PDF RLO BN PDF RLE ON L", [0, 2, 2, 2, 2, 2, 2, 2, 2])


class Isolates(LevelsCase):
    def test_begin_and_end_stand_outside(self):
        self.check(0, "L RLI L PDI L", [0, 0, 2, 0, 0])
        self.check(0, "L LRI R PDI L", [0, 0, 3, 0, 0])
        self.check(1, "R LRI L PDI R", [1, 1, 2, 1, 1])

    def test_pdi_takes_down_what_began_within(self):
        self.check(0, "RLI LRE RLO L PDI L", [0, 0, 0, 3, 0, 0])
        self.check(0, "RLE RLI LRE PDI L", [0, 1, 1, 1, 2])

    def test_pdf_ends_no_isolate(self):
        self.check(0, "RLI PDF L PDI", [0, 0, 2, 0])
        self.check(0, "RLE LRI PDF R PDI L", [0, 1, 1, 3, 1, 2])

    def test_a_pdi_without_begin_ends_nothing(self):
        self.check(0, "RLE PDI L", [0, 1, 2])
        self.check(0, "RLI PDI PDI L", [0, 0, 0, 0])
        self.check(0, "RLE LRI PDI PDI L", [0, 1, 1, 1, 2])

    def test_an_isolate_without_end(self):
        self.check(0, "R RLI L", [1, 0, 2])
        self.check(1, "L LRI R", [2, 1, 3])
        self.check(0, "RLI RLI L PDI L", [0, 1, 4, 1, 2])

    def test_fsi_goes_by_the_first_strong_one_within(self):
        self.check(0, "FSI R ON PDI", [0, 1, 1, 0])
        self.check(0, "FSI AL ON PDI", [0, 1, 1, 0])
        self.check(0, "FSI L ON PDI", [0, 2, 2, 0])
        self.check(0, "FSI ON L R PDI", [0, 2, 2, 3, 0])
        self.check(1, "FSI ON PDI", [1, 2, 1])

    def test_fsi_looks_no_further_than_its_pdi(self):
        self.check(0, "FSI ON PDI R", [0, 2, 0, 1])
        self.check(0, "FSI ON LRI PDI PDI R", [0, 2, 2, 2, 0, 1])

    def test_fsi_skips_the_isolates_within(self):
        self.check(0, "FSI LRI L PDI R PDI", [0, 1, 2, 1, 1, 0])
        self.check(0, "FSI RLI R PDI ON PDI", [0, 2, 3, 2, 2, 0])

    def test_fsi_without_end(self):
        self.check(0, "FSI ON R", [0, 1, 1])
        self.check(0, "FSI ON LRI R", [0, 2, 2, 5])


class HighestLevels(LevelsCase):
    def test_levels_go_up_to_125(self):
        self.check_tail(0, up_to(125) + " R", [125])
        self.check_tail(0, up_to(125) + " L", [126])
        self.check_tail(0, up_to(124) + " L", [124])
        self.check_tail(0, up_to(124) + " AN", [126])

    def test_one_at_a_time_or_two(self):
        self.check_tail(0, "RLE " * 63 + "R", [125])
        self.check_tail(0, "RLE " * 64 + "R", [125])
        self.check_tail(0, "LRE " * 62 + "L", [124])
        self.check_tail(0, "LRE " * 63 + "L", [124])
        self.check_tail(0, "LRE " * 62 + "RLE L", [126])
        self.check_tail(1, "RLE " * 63 + "R", [125])

    def test_each_refused_embedding_takes_a_pdf(self):
        self.check_tail(0, up_to(125) + " LRE RLO L PDF L PDF L PDF L", [126, 126, 126, 126, 126, 126, 124])

    def test_behind_a_refused_one_all_are_refused(self):
        self.check_tail(0, up_to(124) + " LRE RLE L", [124])
        self.check_tail(0, up_to(124) + " LRE RLI L", [124])
        self.check_tail(0, up_to(124) + " LRI RLI L", [124])
        self.check_tail(0, up_to(124) + " LRE RLE PDF PDF RLE L", [126])
        self.check_tail(0, up_to(124) + " LRI PDI RLE L", [126])

    def test_what_is_refused_forces_nothing(self):
        self.check_tail(0, up_to(125) + " LRO R L", [125, 126])

    def test_refused_isolates(self):
        self.check_tail(0, up_to(125) + " LRI L PDI L PDF L", [126, 126, 126, 126, 124])
        self.check_tail(0, up_to(125) + " LRI RLI L PDI L PDI PDF L", [126, 126, 126, 125, 125, 124])

    def test_within_a_refused_isolate_embeddings_are_not_counted(self):
        self.check_tail(0, up_to(125) + " LRI LRE PDI PDF L", [124])

    def test_within_a_refused_isolate_a_pdf_does_nothing(self):
        self.check_tail(0, up_to(125) + " LRI PDF PDI L", [126])
        self.check_tail(0, up_to(125) + " LRE LRI PDF PDI PDF L PDF L", [126, 126, 124])

    def test_a_pdi_forgets_the_refused_embeddings_of_its_isolate(self):
        self.check_tail(0, "RLI " + "RLE " * 70 + "PDI RLE L", [2])
        self.check_tail(0, "RLI " + "RLE " * 70 + "PDI RLI L", [2])

    def test_a_pdi_of_a_refused_isolate_forgets_no_embedding(self):
        self.check_tail(0, up_to(125) + " LRE LRI PDI PDF L", [126])

    def test_isolates_go_up_to_125_too(self):
        self.check_tail(0, "RLI " * 63 + "R", [125])
        self.check_tail(0, "RLI " * 64 + "L " + "PDI " * 64 + "L", [0])
        self.check_tail(0, "RLI " * 128 + "PDI " * 127 + "L", [2])
        self.check_tail(0, "RLI " * 128 + "PDI " * 128, [0])


class LeftOut(LevelsCase):
    def test_at_the_beginning_the_base(self):
        for name in ("RLE", "LRE", "RLO", "LRO", "PDF", "BN"):
            self.check(0, name, [0])
            self.check(1, name + " " + name, [1, 1])

    def test_elsewhere_the_level_of_what_is_before(self):
        self.check(0, "R BN BN L BN", [1, 1, 1, 0, 0])
        self.check(0, "R LRE PDF RLE PDF L", [1, 1, 1, 1, 1, 0])
        self.check(1, "L EN BN R RLO BN", [2, 2, 2, 1, 1, 1])

    def test_the_rules_look_past_it(self):
        self.check(1, "EN BN ES RLE PDF EN", [2, 2, 2, 2, 2, 2])
        self.check(0, "R BN NSM L", [1, 1, 1, 0])
        self.check(0, "R WS BN WS R", [1, 1, 1, 1, 1])

    def test_runs_go_on_across_it(self):
        self.check(0, "RLE EN PDF RLE ES PDF RLE EN", [0, 2, 2, 2, 2, 2, 2, 2])


class Sequences(LevelsCase):
    def test_a_sequence_goes_on_behind_an_isolate(self):
        self.check(0, "R LRI L PDI R", [1, 1, 2, 1, 1])
        self.check(0, "L RLI R PDI EN", [0, 0, 1, 0, 0])
        self.check(0, "AL LRI L PDI EN ES EN", [1, 1, 2, 1, 2, 1, 2])
        self.check(0, "R LRI L PDI LRI L PDI R", [1, 1, 2, 1, 1, 2, 1, 1])

    def test_nothing_goes_on_behind_an_embedding(self):
        self.check(0, "R LRE L PDF ON R", [1, 1, 2, 2, 0, 1])

    def test_before_it_stands_the_greater_level(self):
        self.check(0, "RLE R PDF ON R", [0, 1, 1, 1, 1])
        self.check(0, "LRE L PDF ON R", [0, 2, 2, 0, 1])
        self.check(0, "RLE ON L", [0, 1, 2])
        self.check(0, "RLE LRE L PDF NSM PDF", [0, 0, 2, 2, 2, 2])

    def test_behind_it_stands_the_greater_level(self):
        self.check(0, "R ON RLE R PDF", [1, 1, 1, 1, 1])
        self.check(0, "R ON LRE L PDF", [1, 0, 0, 2, 2])
        self.check(0, "RLE L ON LRE L", [0, 2, 2, 2, 2])
        self.check(0, "RLE L ON PDF", [0, 2, 1, 1])

    def test_the_base_at_both_ends(self):
        self.check(0, "ON R ON", [0, 1, 0])
        self.check(1, "ON L ON", [1, 2, 1])
        self.check(1, "BN NSM L", [1, 1, 2])

    def test_what_is_left_out_is_no_neighbour(self):
        self.check(0, "RLE R PDF BN BN ON R", [0, 1, 1, 1, 1, 1, 1])
        self.check(0, "R ON BN PDF RLE R PDF", [1, 1, 1, 1, 1, 1, 1])

    def test_behind_an_isolate_without_end_the_base(self):
        self.check(0, "R LRI RLE R", [1, 0, 0, 3])
        self.check(0, "R RLI R", [1, 0, 1])
        self.check(1, "L RLI LRE L", [2, 1, 1, 4])


class BWithin(LevelsCase):
    def test_it_does_not_end_embeddings_or_isolates(self):
        self.check(0, "RLE B L", [0, 1, 2])
        self.check(0, "RLI B L", [0, 1, 2])
        self.check(0, "RLO B L PDF", [0, 1, 1, 1])

    def test_it_counts_as_s(self):
        texts = ["R B R", "L B R", "B R", "R B", "R NSM B NSM R", "EN B EN", "R ( B R ) L", "LRI B R PDI L",
                 "AL B EN ES EN", "RLE B L", "RLO B L PDF B"]
        for names in texts:
            for told in (0, 1, 2):
                self.assertEqual(named_levels(told, names), named_levels(told, names.replace("B", "S")))

    def test_nothing_before_it_is_forgotten(self):
        self.check(2, "R B L EN", [1, 1, 2, 2])
        self.check(0, "R B R", [1, 1, 1])


if __name__ == "__main__":
    unittest.main()
