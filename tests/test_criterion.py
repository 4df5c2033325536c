"""The criterion: edges, special edges, and what can be reached."""

import random
import unittest

from tests.helper import (CYCLE, begins, book_of, document_criterion, drop, follows, random_pair,
                          result, results, rule, shows)

ASKED = ("3 0 1", "3 0 1")


class Criterion(unittest.TestCase):
    def expect(self, satisfied, pairs):
        for book in (0, 1):
            calls = book_of(book, pairs)
            told = results(calls + [follows(book, *ASKED), shows(book, *ASKED)])[len(calls):]
            self.assertEqual(told, [[1], [-3]] if satisfied else [[-6], [-6]])

    def test_no_rules(self):
        self.expect(True, [])

    def test_no_edge_leads_back_to_the_start_itself(self):
        self.expect(False, [("0 0 1", "0 1 2")])
        self.expect(False, [("0 0 1", "0 2 0")])
        self.expect(False, [("3 0 0", "3 0 1")])

    def test_a_special_edge_beside_an_ordinary_loop(self):
        self.expect(True, [("0 0 1", "0 0 2")])
        self.expect(True, [("0 0 1", "0 2 1")])
        self.expect(True, [("0 0 1", "1 0 2 0 0 1")])

    def test_ordinary_edges_may_lead_back(self):
        self.expect(True, [("0 0 1", "0 1 0")])
        self.expect(True, [("0 0 1", "1 0 1"), ("1 0 1", "2 1 0"), ("2 0 1", "0 0 1")])

    def test_a_variable_that_is_not_in_the_head_has_no_edges(self):
        self.expect(True, [("0 0 1", "0 2 3")])
        self.expect(True, [("0 0 1", "0 2 2")])
        self.expect(True, [("0 0 1", "1 0 2"), ("1 0 1", "0 0 2")])
        self.expect(True, [("0 0 1", "1 1 2"), ("1 0 1", "0 2 2")])
        self.expect(False, [("0 0 1", "1 1 2"), ("1 0 1", "0 0 2")])

    def test_each_position_in_the_body_has_special_edges(self):
        self.expect(False, [("0 0 1 1 1 2", "1 3 1 2 1 2")])
        self.expect(False, [("2 0 1 0 0 2", "0 4 3 1 0 0")])
        self.expect(False, [("0 0 1 2 0 2", "0 4 3 1 0 0")])
        self.expect(True, [("2 0 1 2 0 2", "0 4 3 1 0 0")])

    def test_each_position_of_the_existential_variable_in_the_head(self):
        self.expect(False, [("0 0 1", "1 0 2 2 2 0"), ("2 0 1", "0 0 3")])
        self.expect(False, [("0 0 1", "1 0 2 2 0 2"), ("2 0 1", "0 1 3")])
        self.expect(True, [("0 0 1", "1 0 2 2 0 2"), ("2 0 1", "0 0 1")])

    def test_each_existential_variable(self):
        self.expect(False, [("0 0 1", "1 0 2 2 3 0"), ("1 0 1", "0 1 0")])
        self.expect(False, [("0 0 1", "1 0 2 2 3 0"), ("2 0 1", "0 0 1")])

    def test_one_edge_leads_back(self):
        self.expect(False, [("0 0 1", "1 1 2"), ("1 0 1", "0 0 1")])
        self.expect(True, [("0 0 1", "1 1 2"), ("1 0 1", "0 1 0")])

    def test_several_edges_lead_back(self):
        self.expect(False, [("0 0 1", "1 1 2"), ("1 0 1", "2 1 0"), ("2 0 1", "0 1 0")])
        self.expect(True, [("0 0 1", "1 1 2"), ("1 0 1", "2 1 0"), ("2 0 1", "0 0 1")])
        self.expect(False, [("2 0 1", "0 1 0"), ("1 0 1", "2 1 0"), ("0 0 1", "1 1 2")])

    def test_special_edges_lead_back(self):
        self.expect(False, [("0 0 1", "1 1 2"), ("1 0 1", "2 1 2"), ("2 0 1", "0 1 1")])
        self.expect(False, [("0 0 1", "1 0 2"), ("1 0 1", "0 2 1")])
        self.expect(True, [("0 0 1", "1 1 2"), ("1 0 1", "2 1 2"), ("2 0 1", "3 1 2")])

    def test_a_way_that_does_not_lead_to_the_start_of_the_special_edge(self):
        # An ordinary loop behind the end of the special edge, away from its start.
        self.expect(True, [("0 0 1", "1 1 2"), ("1 0 1", "1 1 0")])
        self.expect(True, [("0 0 1", "0 1 0"), ("0 0 1", "1 1 2")])

    def test_it_is_a_matter_of_the_one_book(self):
        calls = [rule(1, *CYCLE), rule(0, "0 0 1", "1 0 1"), follows(0, "0 0 1", "1 0 1"),
                 follows(1, "0 0 1", "1 0 1"), shows(0, "0 0 1", "2 0 1")]
        self.assertEqual(results(calls)[2:], [[1], [-6], [2, 0, 50, 51, 1, 50, 51]])

    def test_the_rule_that_is_asked_for_does_not_count(self):
        self.assertEqual(results([follows(0, "0 0 1", "0 1 2"), shows(0, "0 0 1", "0 1 2")]),
                         [[0], [1, 0, 50, 51]])

    def test_it_is_satisfied_again_behind_drop_and_begins(self):
        calls = book_of(0, [("0 0 1", "1 1 2"), ("1 0 1", "0 0 1")])
        told = results(calls + [follows(0, *ASKED), drop(0, 1), follows(0, *ASKED),
                                rule(0, "1 0 1", "0 0 1"), follows(0, *ASKED), begins(),
                                follows(0, *ASKED)])
        self.assertEqual(told[2:], [[-6], [1], [1], [1], [-6], [0], [1]])

    def test_a_rule_that_never_applies_counts(self):
        self.assertEqual(result([rule(0, "2 0 1", "2 1 2"), follows(0, "0 0 1", "0 0 1")]), [-6])

    def test_many_books(self):
        picker = random.Random(11)
        seen = [0, 0]
        for _ in range(1500):
            tables, variables = picker.randint(1, 4), picker.randint(2, 5)
            pairs = [random_pair(picker, tables, variables) for _ in range(picker.randint(1, 3))]
            expected = document_criterion(pairs)
            seen[expected] += 1
            # No rule applies to the facts of a table that only the body of the asked rule has.
            bodies = [atom for pair in pairs for atom in pair[0][::3]]
            free = [table for table in range(4) if table not in bodies]
            if expected and not free:
                continue
            table = free[0] if free else 0
            told = result(book_of(0, pairs) + [follows(0, [table, 0, 1], [table, 0, 1])])
            self.assertEqual(told, [1] if expected else [-6], pairs)
        self.assertGreater(min(seen), 200)


if __name__ == "__main__":
    unittest.main()
