"""within and same: which rules of a book do not follow from the other, and equivalent books."""

import itertools
import unittest

from tests.helper import (BOTH, CYCLE, FIRST, FIRST_AGAIN, FREE, LONG, SECOND, THIRD, TURN, book_of,
                          drop, follows, result, results, rule, same, within)


class TwoBooks(unittest.TestCase):
    def expect(self, pairs, others, missing, missing_of_others):
        """Which of the pairs do not follow from the others, and which of the others do not."""
        for book in (0, 1):
            calls = book_of(book, pairs) + book_of(1 - book, others)
            told = results(calls + [within(1 - book), within(book), same()])[len(calls):]
            self.assertEqual(told[0], [len(missing)] + missing)
            self.assertEqual(told[1], [len(missing_of_others)] + missing_of_others)
            self.assertEqual(told[2], [0 if missing or missing_of_others else 1])


class Small(TwoBooks):
    def test_both_books_empty(self):
        self.expect([], [], [], [])
        self.assertEqual(results([within(0), within(1), same()]), [[0], [0], [1]])

    def test_one_book_empty(self):
        self.expect([FIRST], [], [0], [])
        self.expect([FIRST, SECOND, THIRD], [], [0, 1, 2], [])
        self.expect([FIRST, FIRST], [], [0, 1], [])

    def test_an_empty_book_and_rules_that_follow_from_none(self):
        self.expect([FREE], [], [], [])
        self.expect([FREE, FREE, ("3 4 4", "3 0 1")], [], [], [])
        self.expect([FREE, FIRST, FREE], [], [1], [])
        self.expect([FIRST, FREE, SECOND], [], [0, 2], [])

    def test_a_book_of_one_rule(self):
        self.expect([FIRST], [FIRST], [], [])
        self.expect([FIRST], [FIRST_AGAIN], [], [])
        self.expect([FIRST], [SECOND], [0], [0])
        self.expect([FIRST], [FREE], [0], [])

    def test_the_same_rule_twice(self):
        self.expect([FIRST, FIRST], [FIRST], [], [])
        self.expect([FIRST, FIRST], [FIRST, FIRST, FIRST_AGAIN], [], [])
        self.expect([FIRST, FIRST], [SECOND], [0, 1], [0])


class Several(TwoBooks):
    def test_each_choice_of_rules_in_each_order(self):
        for pairs in itertools.permutations([FIRST, SECOND, THIRD]):
            for size in range(4):
                for others in itertools.combinations(pairs, size):
                    missing = [place for place, pair in enumerate(pairs) if pair not in others]
                    self.expect(list(pairs), list(others), missing, [])

    def test_the_indexes_are_those_of_the_other_book(self):
        self.expect([FIRST, SECOND, THIRD], [SECOND, LONG], [0, 2], [])
        self.expect([LONG, FIRST, SECOND], [SECOND, FIRST], [], [])
        self.expect([THIRD, LONG], [FIRST, SECOND, BOTH], [0], [0, 1, 2])

    def test_a_rule_that_follows_from_several(self):
        self.expect([LONG], [FIRST, SECOND], [], [0, 1])
        self.expect([("0 0 1", "3 0 1")], [THIRD, FIRST, SECOND], [], [0, 1, 2])

    def test_equivalent_without_the_same_rules(self):
        self.expect([FIRST, LONG], [BOTH], [], [])
        self.expect([FIRST, SECOND], [BOTH, SECOND], [], [])
        self.expect([FIRST, SECOND, LONG], [SECOND, FIRST_AGAIN], [], [])
        self.expect([FIRST, TURN], [TURN, ("0 0 1", "1 1 0")], [], [])

    def test_only_one_of_the_books_follows_from_the_other(self):
        self.expect([BOTH], [FIRST], [0], [])
        self.expect([FIRST, SECOND], [SECOND, LONG], [0], [])
        self.expect([FIRST, SECOND, THIRD], [FIRST, SECOND], [2], [])

    def test_existential_variables(self):
        self.expect([("0 0 1", "1 0 2")], [FIRST], [], [0])
        self.expect([("0 0 1", "1 0 2 2 0 2")], [("0 0 1", "1 0 2"), ("0 0 1", "2 0 2")], [0], [])
        self.expect([("0 0 1", "1 0 2 2 0 3")], [("0 0 1", "1 0 2"), ("0 0 1", "2 0 2")], [], [])

    def test_what_the_books_are_at_the_time(self):
        told = results([rule(0, *FIRST), same(), rule(1, *FIRST), same(), rule(1, *SECOND), same(),
                        within(0), drop(1, 0), within(0), within(1), rule(0, *SECOND), drop(0, 0),
                        same(), [0], same()])
        self.assertEqual(told, [[0], [0], [0], [1], [1], [0], [1, 1], [1], [1, 0], [1, 0], [1], [1],
                                [1], [0], [1]])


class Criterion(unittest.TestCase):
    def expect(self, pairs, others, expected):
        for book in (0, 1):
            calls = book_of(book, pairs) + book_of(1 - book, others)
            told = results(calls + [within(book), within(1 - book), same()])[len(calls):]
            self.assertEqual(told, expected)

    def test_one_book_that_does_not_satisfy_it(self):
        self.expect([CYCLE], [], [[-6], [1, 0], [-6]])
        self.expect([CYCLE], [FIRST], [[-6], [1, 0], [-6]])
        self.expect([CYCLE, FIRST], [FIRST], [[-6], [1, 0], [-6]])
        self.expect([FIRST, CYCLE, SECOND], [LONG], [[-6], [3, 0, 1, 2], [-6]])

    def test_all_rules_of_that_book_follow_from_the_other(self):
        self.expect([CYCLE], [TURN], [[-6], [0], [-6]])
        self.expect([CYCLE, TURN], [TURN], [[-6], [0], [-6]])

    def test_both_books_do_not_satisfy_it(self):
        self.expect([CYCLE], [CYCLE], [[-6], [-6], [-6]])
        self.expect([("0 0 1", "1 1 2"), ("1 0 1", "0 0 1")], [CYCLE], [[-6], [-6], [-6]])

    def test_only_both_books_together_do_not_satisfy_it(self):
        self.expect([("0 0 1", "1 1 2")], [("1 0 1", "0 0 1")], [[1, 0], [1, 0], [0]])

    def test_it_is_satisfied_again_behind_drop(self):
        told = results([rule(0, *CYCLE), rule(1, *FIRST), rule(0, *FIRST), within(0), same(),
                        drop(0, 0), within(0), same()])
        self.assertEqual(told[3:], [[-6], [-6], [1], [0], [1]])


class WhatFollows(unittest.TestCase):
    def test_within_names_the_rules_that_follows_answers_0_to(self):
        book = [FIRST, ("1 0 1", "2 1 2")]
        others = [("0 0 1", "2 1 2"), ("0 0 1", "2 0 2"), ("0 0 1 2 0 1", "1 0 3 2 1 4")]
        told = results(book_of(0, book) + book_of(1, others) + [within(0)]
                       + [follows(0, *pair) for pair in others])[5:]
        self.assertEqual(told, [[1, 1], [1], [0], [1]])

    def test_same_beside_its_own_copy_in_any_order(self):
        book = [("0 0 1", "1 1 2"), ("1 0 1", "2 1 2"), ("2 0 1 1 1 2", "3 0 2")]
        for others in itertools.permutations(book):
            self.assertEqual(result(book_of(0, book) + book_of(1, others) + [same()]), [1])


if __name__ == "__main__":
    unittest.main()
