"""Brackets (N0)."""

import unittest

from tests.calling import LevelsCase, named_levels


class Pairs(LevelsCase):
    def test_the_direction_of_the_level_within(self):
        self.check(0, "R ( R L R ) R", [1, 0, 1, 0, 1, 0, 1])
        self.check(1, "L ( L R L ) L", [2, 1, 2, 1, 2, 1, 2])

    def test_the_other_direction_within_and_before(self):
        self.check(0, "R ( R ) L", [1, 1, 1, 1, 0])
        self.check(1, "L ( L ) R", [2, 2, 2, 2, 1])
        self.check(0, "R WS ( R ) L", [1, 1, 1, 1, 1, 0])

    def test_the_other_direction_within_but_not_before(self):
        self.check(0, "L ( R ) R", [0, 0, 1, 0, 1])
        self.check(1, "R ( L ) L", [1, 1, 2, 1, 2])

    def test_nothing_within(self):
        self.check(0, "R ( ) R", [1, 1, 1, 1])
        self.check(0, "R ( WS ) L", [1, 0, 0, 0, 0])
        self.check(1, "L ( ON ) L", [2, 2, 2, 2, 2])

    def test_numbers_count_as_from_the_right(self):
        self.check(0, "R ( AN ) L", [1, 1, 2, 1, 0])
        self.check(0, "R ( EN ) L", [1, 1, 2, 1, 0])
        self.check(1, "L ( L AN L ) L", [2, 1, 2, 2, 2, 1, 2])
        self.check(0, "L AN ( R ) L", [0, 2, 1, 1, 1, 0])

    def test_the_beginning_counts_as_strong_before(self):
        self.check(0, "( R ) R", [0, 1, 0, 1])
        self.check(1, "( L ) L", [1, 2, 1, 2])
        self.check(0, "LRE RLE R PDF ( R ) L", [0, 0, 3, 3, 3, 3, 3, 2])

    def test_earlier_pairs_count_as_changed(self):
        self.check(0, "R ( [ R ] L )", [1, 0, 0, 1, 0, 0, 0])
        self.check(0, "R ( R ) ON [ R ] L", [1, 1, 1, 1, 1, 1, 1, 1, 0])

    def test_a_pair_reaches_across_an_isolate_but_not_into_it(self):
        self.check(0, "R ( LRI L PDI R ) L", [1, 1, 1, 2, 1, 1, 1, 0])
        self.check(0, "R ( RLI ) R PDI L R", [1, 0, 0, 1, 1, 0, 0, 1])
        self.check(0, "R LRI ( PDI R ) L", [1, 1, 2, 1, 1, 0, 0])


class Pile(LevelsCase):
    def test_a_closing_one_goes_with_the_topmost_of_its_number(self):
        self.check(0, "R ( ( L R ) R", [1, 0, 0, 0, 1, 0, 1])
        self.check(0, "R ( R ( L R ) R", [1, 1, 1, 0, 0, 1, 0, 1])

    def test_what_is_above_it_goes(self):
        self.check(0, "R ( [ L R ) R ] R", [1, 0, 0, 0, 1, 0, 1, 1, 1])
        self.check(0, "R [ ( L R ] R ) R", [1, 0, 0, 0, 1, 0, 1, 1, 1])

    def test_what_is_below_it_stays(self):
        self.check(0, "R ( R [ L ] R ) R", [1, 0, 1, 0, 0, 0, 1, 0, 1])
        self.check(0, "R ( R [ R ] L R ) R", [1, 0, 1, 1, 1, 1, 0, 1, 0, 1])

    def test_a_closing_one_without_opening_takes_nothing(self):
        self.check(0, "R ] R ) L", [1, 1, 1, 0, 0])
        self.check(0, "R ( ] L R ) R", [1, 0, 0, 0, 1, 0, 1])

    def test_pairs_go_by_their_number(self):
        self.check(0, "R ( L R > R", [1, 0, 0, 1, 0, 1])
        self.check(0, "R < L R ) R", [1, 0, 0, 1, 0, 1])
        self.check(0, "R ( L R ] R", [1, 0, 0, 1, 1, 1])

    def deep(self, many):
        """The level of a closing one behind so many openings: 0 if it's paired, else 1."""
        return named_levels(0, "R " + "( " * many + "L R ) R")[-2]

    def test_63_on_the_pile_and_one_more(self):
        self.assertEqual([self.deep(many) for many in (1, 62, 63, 64, 65)], [0, 0, 0, 1, 1])

    def test_with_64_no_pair_counts_not_even_an_earlier_one(self):
        early = "R ( L R ) R "
        self.assertEqual(named_levels(0, early + "( " * 63)[2:8], [1, 0, 0, 1, 0, 1])
        self.assertEqual(named_levels(0, early + "( " * 64)[2:8], [1, 0, 0, 1, 1, 1])

    def test_a_closing_one_makes_room(self):
        many = "( " * 63 + ") " + "( L R ) R"
        self.assertEqual(named_levels(0, "R " + many)[-2], 0)
        self.assertEqual(named_levels(0, "R " + "( ) " * 100 + "( L R ) R")[-2], 0)

    def test_each_sequence_has_a_pile_of_its_own(self):
        names = "R ( L R ) LRI " + "( " * 64 + "PDI R"
        self.assertEqual(named_levels(0, names)[2:7], [1, 0, 0, 1, 0])


class WhatIsABracket(LevelsCase):
    def test_whatever_it_was_at_first_if_it_is_neutral_by_then(self):
        self.check(0, "R cs( R cs) L", [1, 1, 1, 1, 0])
        self.check(0, "R CS R CS L", [1, 1, 1, 0, 0])
        self.check(0, "R ON nsm( R ) L", [1, 1, 1, 1, 1, 0])

    def test_a_sign_that_became_a_number_is_none(self):
        self.check(0, "R EN cs( EN R ) L", [1, 2, 2, 2, 1, 0, 0])

    def test_a_strong_one_is_none(self):
        self.check(0, "R l( R l) R", [1, 0, 1, 0, 1])
        self.check(0, "R l( R ) L", [1, 0, 1, 0, 0])

    def test_what_an_override_forces_is_none(self):
        self.check(0, "RLE L PDF RLO ( PDF RLE L )", [0, 2, 2, 2, 1, 1, 1, 2, 1])
        self.check(0, "RLE L PDF RLE ( PDF RLE L )", [0, 2, 2, 2, 2, 2, 2, 2, 2])

    def test_a_neutral_that_is_not_in_the_table_is_none(self):
        self.check(0, "R ON R ON L", [1, 1, 1, 0, 0])


class Marks(LevelsCase):
    def test_marks_behind_a_changed_bracket(self):
        self.check(0, "R ( R ) NSM L", [1, 1, 1, 1, 1, 0])
        self.check(0, "R ( R ) NSM NSM L", [1, 1, 1, 1, 1, 1, 0])
        self.check(1, "L ( L ) NSM NSM R", [2, 2, 2, 2, 2, 2, 1])
        self.check(0, "R ( NSM R ) NSM L", [1, 1, 1, 1, 1, 1, 0])

    def test_what_is_left_out_does_not_part_them(self):
        self.check(0, "R ( R ) BN NSM RLE PDF NSM L", [1, 1, 1, 1, 1, 1, 1, 1, 1, 0])

    def test_marks_behind_a_bracket_that_stays(self):
        self.check(0, "R ( ON ) NSM L", [1, 0, 0, 0, 0, 0])
        self.check(0, "R ) NSM L", [1, 0, 0, 0])

    def test_only_what_stands_directly_behind(self):
        self.check(0, "R ( R ) WS NSM L", [1, 1, 1, 1, 0, 0, 0])
        self.check(0, "R ( R ) NSM WS NSM L", [1, 1, 1, 1, 1, 0, 0, 0])

    def test_only_what_was_a_mark_at_first(self):
        self.check(0, "R ( R ) ON L", [1, 1, 1, 1, 0, 0])
        self.check(0, "R ( R ) WS L", [1, 1, 1, 1, 0, 0])

    def test_a_mark_at_first_that_an_override_forced(self):
        self.check(0, "RLE L ( L ) PDF RLO NSM", [0, 2, 2, 2, 2, 2, 2, 2])

    def test_a_mark_that_is_itself_a_bracket(self):
        self.check(0, "R ( R ) nsm( L R ) R", [1, 1, 1, 1, 0, 0, 1, 0, 1])
        self.check(0, "R ( R ) nsm( ) L", [1, 1, 1, 1, 1, 0, 0])


if __name__ == "__main__":
    unittest.main()
