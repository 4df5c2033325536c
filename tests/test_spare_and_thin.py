"""spare and thin: which rules follow from all others of their book, and which of them go."""

import itertools
import unittest

from tests.helper import (BOTH, CYCLE, FIRST, FIRST_AGAIN, FREE, LONG, SECOND, THIRD, TURN, book_of,
                          drop, follows, result, results, rule, same, shows, spare, thin)

# Takes a step with an unknown value.
NEW = ("0 0 1", "1 1 2")


class Books(unittest.TestCase):
    def expect(self, pairs, spares, left):
        """The left ones are the rules that are still in the book behind thin, in order."""
        for book in (0, 1):
            self.assertEqual(result(book_of(book, pairs) + [spare(book)]), [len(spares)] + spares)
            told = results(book_of(book, pairs) + [thin(book)] + self.asked(book, pairs))
            self.assertEqual(told[len(pairs)], [len(left)])
            expected = results(book_of(book, left) + self.asked(book, pairs))
            self.assertEqual(told[len(pairs) + 1:], expected[len(left):])

    def asked(self, book, pairs):
        """Calls that take the book apart rule by rule and ask for the pairs ahead of each drop."""
        once = [follows(book, *pair) for pair in pairs] + [drop(book, 0)]
        return once * 3 + [drop(book, 0)]


class SmallBooks(Books):
    def test_the_empty_book(self):
        self.expect([], [], [])

    def test_a_book_of_one_rule(self):
        self.expect([FIRST], [], [FIRST])
        self.expect([NEW], [], [NEW])

    def test_a_rule_that_follows_from_no_rules(self):
        for free in (FREE, ("0 0 1", "0 0 1"), ("0 0 1 1 2 3", "1 2 4"), ("3 4 4", "3 0 1")):
            self.expect([free], [0], [])
            self.expect([free, FIRST], [0], [FIRST])
            self.expect([FIRST, free], [1], [FIRST])
            self.expect([free, free, free], [0, 1, 2], [])

    def test_two_rules(self):
        self.expect([FIRST, SECOND], [], [FIRST, SECOND])
        self.expect([BOTH, LONG], [1], [BOTH])
        self.expect([LONG, BOTH], [0], [BOTH])

    def test_the_same_rule_twice(self):
        self.expect([FIRST, FIRST], [0, 1], [FIRST])
        self.expect([NEW, NEW], [0, 1], [NEW])
        self.expect([FIRST, FIRST, FIRST], [0, 1, 2], [FIRST])


class ThreeRules(Books):
    def test_none_follows(self):
        for pairs in itertools.permutations([FIRST, SECOND, THIRD]):
            self.expect(list(pairs), [], list(pairs))

    def test_one_follows(self):
        for pairs in itertools.permutations([FIRST, SECOND, LONG]):
            left = [pair for pair in pairs if pair != LONG]
            self.expect(list(pairs), [pairs.index(LONG)], left)

    def test_two_follow(self):
        self.expect([FIRST, SECOND, FIRST], [0, 2], [FIRST, SECOND])
        self.expect([FIRST, FIRST, SECOND], [0, 1], [FIRST, SECOND])
        self.expect([SECOND, FIRST, FIRST], [1, 2], [SECOND, FIRST])
        self.expect([SECOND, BOTH, FIRST], [1, 2], [SECOND, BOTH])
        self.expect([FREE, SECOND, FREE], [0, 2], [SECOND])

    def test_all_follow(self):
        self.expect([FIRST, FIRST, FIRST_AGAIN], [0, 1, 2], [FIRST])
        self.expect([FREE, FREE, ("1 0 1", "1 0 1")], [0, 1, 2], [])

    def test_all_follow_and_what_is_left_depends_on_the_order(self):
        self.expect([BOTH, FIRST, LONG], [0, 1, 2], [BOTH])
        self.expect([BOTH, LONG, FIRST], [0, 1, 2], [BOTH])
        self.expect([FIRST, LONG, BOTH], [0, 1, 2], [FIRST, LONG])
        self.expect([FIRST, BOTH, LONG], [0, 1, 2], [BOTH])
        self.expect([LONG, BOTH, FIRST], [0, 1, 2], [BOTH])

    def test_two_equivalent_rules_of_which_the_later_one_goes(self):
        self.expect([FIRST, THIRD, FIRST_AGAIN], [0, 2], [FIRST, THIRD])
        self.expect([FIRST_AGAIN, THIRD, FIRST], [0, 2], [FIRST_AGAIN, THIRD])
        self.expect([THIRD, FIRST, FIRST_AGAIN], [1, 2], [THIRD, FIRST])

    def test_from_the_last_one_to_the_first_one(self):
        # With the second rule the two others are equivalent, so the later of them goes.
        self.expect([FIRST, BOTH, SECOND], [0, 1], [FIRST, SECOND])
        self.expect([BOTH, FIRST, SECOND], [0, 1], [BOTH, SECOND])
        self.expect([SECOND, FIRST, BOTH], [1, 2], [SECOND, FIRST])


class ExistentialVariables(Books):
    def test_a_weaker_rule_follows(self):
        self.expect([("0 0 1", "1 0 2"), FIRST], [0], [FIRST])
        self.expect([FIRST, ("0 0 1", "1 0 2")], [1], [FIRST])
        self.expect([NEW, ("0 0 1", "1 3 4")], [1], [NEW])

    def test_unknown_values_over_several_steps(self):
        pairs = [NEW, ("1 0 1", "2 1 2"), ("0 0 1", "1 1 2 2 2 3")]
        self.expect(pairs, [0, 2], pairs[:2])
        self.expect(pairs[::-1], [0, 2], pairs[::-1][:2])
        apart = [("0 0 1", "1 0 2"), ("0 0 1", "2 0 2"), ("0 0 1", "1 0 2 2 0 2")]
        self.expect(apart, [0, 1], apart[2:])

    def test_the_earlier_of_two_equivalent_rules_is_left_with_its_edges(self):
        # The head's second atom asks for nothing new, but it has a special edge that leads into
        # a loop as soon as the turning rule is there.
        wide, narrow = ("0 0 1", "1 0 2 0 0 3"), ("0 0 1", "1 0 2")
        for pairs, expected in (([wide, narrow], [-6]), ([narrow, wide], [0])):
            told = results(book_of(0, pairs) + [spare(0), thin(0), rule(0, *TURN), spare(0)])
            self.assertEqual(told[2:], [[2, 0, 1], [1], [1], expected])

    def test_steps_of_what_is_left(self):
        other = ("0 0 1", "2 0 2")
        asked = shows(0, "0 0 1", "3 0 0")
        self.assertEqual(result(book_of(0, [NEW, other, NEW]) + [thin(0), asked]),
                         [3, 0, 50, 51, 1, 51, 100, 2, 50, 101])
        self.assertEqual(result(book_of(0, [other, NEW, NEW]) + [thin(0), asked]),
                         [3, 0, 50, 51, 1, 51, 101, 2, 50, 100])


class Thinning(unittest.TestCase):
    BOOKS = ([FIRST, SECOND, LONG], [LONG, BOTH, FIRST], [FIRST, FREE, FIRST_AGAIN],
             [FIRST, SECOND, THIRD], [NEW, NEW, FREE])

    def test_follows_and_same_answer_as_before(self):
        asked = [FIRST, SECOND, THIRD, LONG, BOTH, FREE, NEW, ("0 0 1", "3 0 1")]
        for pairs in self.BOOKS:
            asking = [follows(0, *pair) for pair in asked] + [same()]
            told = results(book_of(0, pairs) + book_of(1, pairs) + asking + [thin(0)] + asking)
            self.assertEqual(told[6:6 + len(asking)], told[-len(asking):])
            self.assertEqual(told[-1], [1])

    def test_no_rule_is_spare_behind_it_and_a_second_time_removes_none(self):
        for pairs in self.BOOKS:
            told = results(book_of(0, pairs) + [thin(0), spare(0), thin(0), spare(0)])[3:]
            self.assertEqual(told, [told[0], [0], told[0], [0]])

    def test_there_is_room_for_rules_behind_it(self):
        told = results(book_of(0, [FIRST, SECOND, LONG]) + [rule(0, *THIRD), thin(0)]
                       + [rule(0, *THIRD), rule(0, *LONG), drop(0, 2), drop(0, 2)])
        self.assertEqual(told[3:], [[-7], [2], [2], [-7], [2], [-2]])

    def test_the_other_book_stays(self):
        pairs = [FIRST, SECOND, LONG]
        for book in (0, 1):
            told = results(book_of(0, pairs) + book_of(1, pairs)
                           + [thin(book), spare(1 - book), drop(1 - book, 2), drop(book, 2)])
            self.assertEqual(told[6:], [[2], [1, 2], [2], [-2]])

    def test_the_other_book_does_not_count(self):
        told = results(book_of(0, [FIRST, LONG]) + book_of(1, [SECOND, FIRST])
                       + [spare(0), spare(1), thin(0), thin(1)])
        self.assertEqual(told[4:], [[0], [0], [2], [2]])


class Criterion(unittest.TestCase):
    def test_a_book_that_does_not_satisfy_it(self):
        for pairs in ([CYCLE], [CYCLE, FIRST], [FREE, CYCLE, FREE], [NEW, ("1 0 1", "0 0 1")]):
            for book in (0, 1):
                told = results(book_of(book, pairs) + [spare(book), thin(book), drop(book, 0)])
                self.assertEqual(told[len(pairs):], [[-6], [-6], [len(pairs) - 1]])

    def test_it_is_a_matter_of_the_whole_book(self):
        # The rule that breaks it follows from the other one.
        pairs = [CYCLE, TURN]
        told = results(book_of(0, pairs) + [spare(0), thin(0), drop(0, 0), spare(0), thin(0)])
        self.assertEqual(told[2:], [[-6], [-6], [1], [0], [1]])

    def test_the_other_book_need_not_satisfy_it(self):
        for book in (0, 1):
            calls = book_of(1 - book, [CYCLE]) + book_of(book, [FIRST, FREE])
            self.assertEqual(results(calls + [spare(book), thin(book)])[3:], [[1, 1], [1]])


if __name__ == "__main__":
    unittest.main()
