"""follows and shows: ordinary calls and edges."""

import unittest

from tests.helper import book_of, follows, result, results, rule, shows, shown

CHAIN = [("0 0 1", "1 0 1"), ("1 0 1", "2 0 1"), ("2 0 1", "3 0 1")]


class Both(unittest.TestCase):
    def expect_follows(self, pairs, body, head):
        told = results(book_of(0, pairs) + [follows(0, body, head), shows(0, body, head)])
        self.assertEqual(told[len(pairs):], [[1], [-3]])

    def expect_shown(self, pairs, body, head, text):
        told = results(book_of(0, pairs) + [follows(0, body, head), shows(0, body, head)])
        self.assertEqual(told[len(pairs):], [[0], shown(text)])


class TheEmptyBook(Both):
    def test_a_head_of_atoms_of_the_body(self):
        self.expect_follows([], "0 0 1", "0 0 1")
        self.expect_follows([], "3 4 4", "3 4 4")
        self.expect_follows([], "0 0 1 1 2 3", "1 2 3")
        self.expect_follows([], "0 0 1 1 2 3", "1 2 3 0 0 1")
        self.expect_follows([], "0 0 1", "0 0 1 0 0 1")

    def test_a_head_that_is_weaker_than_the_body(self):
        self.expect_follows([], "0 0 1", "0 0 2")
        self.expect_follows([], "0 0 1", "0 2 1")
        self.expect_follows([], "0 0 1", "0 3 4")
        self.expect_follows([], "0 0 0", "0 1 1")
        self.expect_follows([], "0 0 1 1 1 2", "0 3 4 1 4 2")

    def test_any_other_head(self):
        self.expect_shown([], "0 0 1", "1 0 1", "0 50 51")
        self.expect_shown([], "0 0 1", "0 1 0", "0 50 51")
        self.expect_shown([], "0 0 1", "0 2 2", "0 50 51")
        self.expect_shown([], "0 0 1", "0 1 2", "0 50 51")
        self.expect_shown([], "0 0 1", "0 0 1 1 0 1", "0 50 51")
        self.expect_shown([], "0 0 1 1 2 3", "0 0 4 1 4 3", "0 50 51, 1 52 53")


class SeveralRules(Both):
    def test_a_rule_of_the_book(self):
        for pair in CHAIN:
            self.expect_follows(CHAIN, *pair)

    def test_a_rule_of_the_book_with_other_variables(self):
        self.expect_follows(CHAIN, "0 3 2", "1 3 2")
        self.expect_follows(CHAIN, "0 2 2", "1 2 2")

    def test_over_several_rules(self):
        self.expect_follows(CHAIN, "0 0 1", "3 0 1")
        self.expect_follows(CHAIN, "0 0 1 1 2 3", "3 2 3 2 0 1")
        self.expect_follows(CHAIN[::-1], "0 0 1", "3 0 1")
        self.expect_shown(CHAIN, "1 0 1", "0 0 1", "1 50 51, 2 50 51, 3 50 51")
        self.expect_shown([CHAIN[0], CHAIN[2]], "0 0 1", "3 0 1", "0 50 51, 1 50 51")

    def test_bodies_that_join(self):
        joins = [("0 0 1 0 1 2", "0 0 2")]
        self.expect_follows(joins, "0 3 1 0 1 4", "0 3 4")
        self.expect_shown(joins, "0 3 1 0 1 4", "0 4 3", "0 51 54, 0 53 51, 0 53 54")
        self.expect_shown(joins, "0 3 1 0 2 4", "0 3 4", "0 52 54, 0 53 51")

    def test_the_other_book_does_not_count(self):
        calls = book_of(0, CHAIN[:1]) + book_of(1, CHAIN[1:2])
        asked = [follows(0, "1 0 1", "2 0 1"), follows(1, "1 0 1", "2 0 1"),
                 follows(0, "0 0 1", "1 0 1"), follows(1, "0 0 1", "1 0 1"),
                 shows(0, "1 0 1", "2 0 1"), shows(1, "1 0 1", "2 0 1")]
        self.assertEqual(results(calls + asked)[2:], [[0], [1], [1], [0], [1, 1, 50, 51], [-3]])


class ExistentialVariables(Both):
    def test_an_unknown_value_is_a_value(self):
        pairs = [("0 0 1", "1 1 2")]
        self.expect_follows(pairs, "0 0 1", "1 1 2")
        self.expect_follows(pairs, "0 0 1", "1 1 4")
        self.expect_follows(pairs, "0 0 1", "1 3 4")
        self.expect_shown(pairs, "0 0 1", "1 1 0", "0 50 51, 1 51 100")
        self.expect_shown(pairs, "0 0 1", "1 0 2", "0 50 51, 1 51 100")
        self.expect_shown(pairs, "0 0 1", "1 2 2", "0 50 51, 1 51 100")

    def test_both_atoms_of_the_head_take_the_same_value(self):
        apart = [("0 0 1", "1 0 2"), ("0 0 1", "2 0 2")]
        self.expect_shown(apart, "0 0 1", "1 0 2 2 0 2", "0 50 51, 1 50 100, 2 50 101")
        self.expect_follows(apart, "0 0 1", "1 0 2 2 0 3")
        self.expect_follows([("0 0 1", "1 0 2 2 0 2")], "0 0 1", "1 0 4 2 0 4")

    def test_the_second_of_two_facts_may_be_the_one(self):
        pairs = [("0 0 1", "1 0 2 2 2 1")]
        self.expect_follows(pairs, "0 0 1 1 0 3", "1 0 4 2 4 1")

    def test_body_variables_keep_their_values_in_the_head(self):
        self.expect_shown([], "0 0 1 0 1 2", "0 1 0", "0 50 51, 0 51 52")
        self.expect_shown([], "0 0 1 0 2 3", "0 0 3", "0 50 51, 0 52 53")

    def test_unknown_values_over_several_steps(self):
        pairs = [("0 0 1", "1 1 2"), ("1 0 1", "2 1 2"), ("2 0 1", "3 1 0")]
        self.expect_follows(pairs, "0 0 1", "1 1 2 2 2 3")
        self.expect_follows(pairs, "0 0 1", "3 2 3 1 1 3")
        self.expect_shown(pairs, "0 0 1", "3 1 2",
                          "0 50 51, 1 51 100, 2 100 101, 3 101 100")


class LongChase(Both):
    # Each of the 4 pairs of values takes up an unknown value, and each of the 6 values that are
    # then first values takes part in 36 pairs.
    PAIRS = [("0 0 1 0 2 3", "1 0 4 1 4 3"), ("1 0 1 1 2 3", "2 0 2")]

    def test_many_steps(self):
        self.expect_follows(self.PAIRS, "0 0 1 0 2 3", "2 0 2")
        told = result(book_of(0, self.PAIRS) + [shows(0, "0 0 1 0 2 3", "3 0 1")])
        self.assertEqual(told[0], 2 + 8 + 36)
        self.assertEqual(told[1:7], [0, 50, 51, 0, 52, 53])
        self.assertEqual(told[7:31], [1, 50, 100, 1, 50, 101, 1, 52, 102, 1, 52, 103,
                                      1, 100, 51, 1, 101, 53, 1, 102, 51, 1, 103, 53])
        firsts = [50, 52, 100, 101, 102, 103]
        pairs = [number for a in firsts for b in firsts for number in (2, a, b)]
        self.assertEqual(told[31:], pairs)

    def test_a_hundred_steps_in_each_of_twelve_calls(self):
        pairs = [("1 1 0 1 1 2", "3 3 3 3 4 0"), ("0 3 4 0 1 2", "2 4 0 0 0 2"),
                 ("1 4 0 3 3 1", "0 0 1 1 4 4")]
        calls = book_of(0, pairs) + [shows(0, "1 2 1 1 3 0", "2 0 0")] * 12
        told = results(calls)[3:]
        self.assertEqual(told, [told[0]] * 12)
        self.assertGreater(told[0][0], 100)


if __name__ == "__main__":
    unittest.main()
