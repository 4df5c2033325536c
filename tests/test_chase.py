"""The consequences that shows tells: facts and their order, matches, unknown values, steps."""

import unittest

from tests.helper import book_of, result, shown, shows


class Consequences(unittest.TestCase):
    def expect(self, pairs, body, text, head="3 4 4"):
        """The head has to be one that the consequences do not match."""
        self.assertEqual(result(book_of(0, pairs) + [shows(0, body, head)]), shown(text))


class Facts(Consequences):
    def test_the_body_is_what_the_chase_starts_with(self):
        self.expect([], "0 0 1", "0 50 51")
        self.expect([], "3 4 0", "3 54 50")
        self.expect([], "2 3 3", "2 53 53")

    def test_each_fact_is_listed_once(self):
        self.expect([], "0 0 1 0 0 1", "0 50 51")
        self.expect([("0 0 1", "0 0 1 1 0 1"), ("0 0 1", "1 0 1 1 0 1")], "0 0 1",
                    "0 50 51, 1 50 51")

    def test_order_by_table_then_first_then_second_value(self):
        self.expect([], "1 0 0 0 4 4", "0 54 54, 1 50 50")
        self.expect([], "0 2 0 0 1 4", "0 51 54, 0 52 50")
        self.expect([], "0 1 3 0 1 2", "0 51 52, 0 51 53")

    def test_known_values_stand_ahead_of_unknown_ones(self):
        self.expect([("1 0 1", "0 2 0 0 0 2")], "1 0 1", "0 50 100, 0 100 50, 1 50 51")


class Matches(Consequences):
    def test_both_atoms_may_be_matched_by_the_same_fact(self):
        self.expect([("0 0 1 0 2 1", "1 0 2")], "0 0 1", "0 50 51, 1 50 50")

    def test_a_variable_has_one_value(self):
        self.expect([("0 0 0", "1 0 0")], "0 0 1", "0 50 51")
        self.expect([("0 0 0", "1 0 0")], "0 2 2", "0 52 52, 1 52 52")
        self.expect([("0 0 1 0 1 0", "1 0 1")], "0 0 1 0 1 2", "0 50 51, 0 51 52")
        self.expect([("0 0 1 0 1 0", "1 0 1")], "0 0 1 0 1 0",
                    "0 50 51, 0 51 50, 1 50 51, 1 51 50")

    def test_two_variables_may_have_the_same_value(self):
        self.expect([("0 0 1", "1 1 0")], "0 3 3", "0 53 53, 1 53 53")

    def test_the_table_counts(self):
        self.expect([("1 0 1", "2 0 1")], "0 0 1", "0 50 51")

    def test_steps_go_through_the_matches_by_the_first_fact(self):
        self.expect([("0 0 1", "1 0 2")], "0 1 0 0 0 1",
                    "0 50 51, 0 51 50, 1 50 100, 1 51 101")
        self.expect([("0 0 1", "1 1 2")], "0 1 2 0 1 0",
                    "0 51 50, 0 51 52, 1 50 100, 1 52 101")

    def test_steps_go_through_the_matches_by_the_second_fact_next(self):
        self.expect([("0 0 1 0 2 3", "1 0 4 2 2 4")], "0 0 1 0 1 0",
                    "0 50 51, 0 51 50, 1 50 100, 1 50 101, 1 51 102, 1 51 103,"
                    "2 50 100, 2 50 102, 2 51 101, 2 51 103")

    def test_the_first_atom_counts_first_even_with_a_later_table(self):
        self.expect([("1 0 1 0 0 2", "2 2 4")], "0 0 1 1 0 0", "0 50 51, 1 50 50, 2 51 100")
        self.expect([("3 0 1", "1 1 0 0 0 4"), ("1 0 1 0 1 2", "2 2 4")], "3 0 1 3 2 1",
                    "0 50 100, 0 52 101, 1 51 50, 1 51 52, 2 100 102, 2 101 103,"
                    "3 50 51, 3 52 51")

    def test_values_are_taken_up_at_the_first_of_their_matches(self):
        self.expect([("3 0 1 2 2 3", "0 0 1 0 3 1"), ("2 0 1", "0 0 1"), ("0 0 1", "1 1 2")],
                    "3 0 1 2 3 4",
                    "0 50 51, 0 53 54, 0 54 51, 1 51 100, 1 54 101, 2 53 54, 3 50 51")


class UnknownValues(Consequences):
    def test_by_first_occurrence_in_the_head(self):
        self.expect([("0 0 1", "1 3 2")], "0 0 1", "0 50 51, 1 100 101")
        self.expect([("0 0 1", "1 0 4 2 3 4")], "0 0 1", "0 50 51, 1 50 100, 2 101 100")
        self.expect([("0 0 1", "1 4 3 2 3 0")], "0 0 1", "0 50 51, 1 100 101, 2 101 50")

    def test_a_variable_takes_one_value_in_the_whole_head(self):
        self.expect([("0 0 1", "1 2 2")], "0 0 1", "0 50 51, 1 100 100")
        self.expect([("0 0 1", "1 0 2 2 2 1")], "0 0 1", "0 50 51, 1 50 100, 2 100 51")

    def test_four_in_one_step(self):
        self.expect([("0 0 0", "1 4 3 2 2 1")], "0 0 0", "0 50 50, 1 100 101, 2 102 103")

    def test_they_go_on_from_step_to_step(self):
        self.expect([("0 0 1", "1 1 2"), ("1 0 1", "2 1 2")], "0 0 1",
                    "0 50 51, 1 51 100, 2 100 101")
        self.expect([("0 0 1", "1 2 3"), ("1 0 1", "2 1 4 2 3 0")], "0 0 1",
                    "0 50 51, 1 100 101, 2 101 102, 2 103 100")


class Steps(Consequences):
    def test_none_where_the_head_is_matched(self):
        self.expect([("0 0 1", "1 0 2")], "0 0 1 1 0 3", "0 50 51, 1 50 53")
        self.expect([("0 0 1", "0 0 2")], "0 0 1", "0 50 51")
        self.expect([("0 0 1", "0 2 3")], "0 0 1", "0 50 51")

    def test_one_where_the_head_is_matched_only_in_parts(self):
        self.expect([("0 0 1", "1 0 2 2 2 1")], "0 0 1 1 0 2",
                    "0 50 51, 1 50 52, 1 50 100, 2 100 51")

    def test_one_where_shared_values_do_not_agree(self):
        self.expect([("0 0 1", "1 0 2")], "0 0 1 1 1 3", "0 50 51, 1 50 100, 1 51 53")

    def test_a_head_without_shared_variables_is_taken_once(self):
        self.expect([("0 0 1", "1 2 3")], "0 0 1 0 1 2", "0 50 51, 0 51 52, 1 100 101")

    def test_one_step_may_do_for_several_matches(self):
        self.expect([("0 0 1", "1 0 2")], "0 0 1 0 0 2", "0 50 51, 0 50 52, 1 50 100")

    def test_the_first_rule_that_does_not_hold_comes_first(self):
        spread, turn = ("1 0 1", "2 1 2"), ("0 0 1", "1 1 2")
        self.expect([spread, turn], "0 0 1 1 0 1",
                    "0 50 51, 1 50 51, 1 51 101, 2 51 100, 2 101 102")
        self.expect([turn, spread], "0 0 1 1 0 1",
                    "0 50 51, 1 50 51, 1 51 100, 2 51 101, 2 100 102")

    def test_after_each_step_the_first_rule_is_asked_again(self):
        self.expect([("1 0 1", "2 1 2"), ("0 0 1", "1 0 2")], "0 0 1 0 1 0",
                    "0 50 51, 0 51 50, 1 50 100, 1 51 102, 2 100 101, 2 102 103")

    def test_a_step_may_bring_about_matches_of_its_own_rule(self):
        self.expect([("0 0 1 0 1 2", "0 0 2")], "0 0 1 0 1 0",
                    "0 50 50, 0 50 51, 0 51 50, 0 51 51")

    def test_a_new_fact_may_match_the_second_atom(self):
        self.expect([("0 0 1", "1 1 0"), ("0 0 1 1 1 2", "2 0 2")], "0 0 1",
                    "0 50 51, 1 51 50, 2 50 50")

    def test_three_rules_and_several_unknown_values(self):
        self.expect([("0 0 1", "1 0 2 1 2 1"), ("1 0 1 1 1 2", "2 0 2"), ("2 0 1", "3 1 2 3 2 0")],
                    "0 0 1 0 1 2",
                    "0 50 51, 0 51 52, 1 50 100, 1 51 101, 1 100 51, 1 101 52,"
                    "2 50 51, 2 51 52, 2 100 101,"
                    "3 51 102, 3 52 103, 3 101 104, 3 102 50, 3 103 51, 3 104 100",
                    head="3 0 0")


if __name__ == "__main__":
    unittest.main()
