"""The examples of the document."""

import unittest

from rulebooksdesk.implied import answers
from tests.helper import (book_of, drop, follows, results, rule, same, shows, shown, spare, thin,
                          within)

BOOKS = (book_of(0, [("0 0 1", "1 0 1"), ("1 0 1", "2 1 0"), ("0 0 1", "2 1 2")])
         + book_of(1, [("0 0 1", "1 0 1"), ("1 0 1", "2 1 0")]))
ROWS = [
    (follows(0, "0 0 1", "2 1 0"), [1]),
    (follows(0, "0 0 1", "2 0 1"), [0]),
    (shows(0, "0 0 1", "2 0 1"), shown("0 50 51, 1 50 51, 2 51 50")),
    (spare(0), [1, 2]),
    (same(), [1]),
    (within(1), [0]),
    (thin(0), [2]),
    (spare(0), [0]),
    (drop(0, 0), [1]),
    (within(1), [0]),
    (within(0), [1, 0]),
    (follows(0, "0 0 1 1 0 2", "2 2 0"), [1]),
    (shows(0, "1 0 1", "2 1 0"), [-3]),
    (rule(1, "2 0 1", "2 1 2"), [2]),
    (same(), [-6]),
    (rule(2, "0 0 1", "0 0 1"), [-2]),
    (drop(1, 3), [-2]),
]


class Examples(unittest.TestCase):
    def test_the_rows_in_their_order(self):
        told = results(BOOKS + [call for call, _ in ROWS])
        self.assertEqual(told[:5], [[0], [1], [2], [0], [1]])
        self.assertEqual(told[5:], [expected for _, expected in ROWS])

    def test_the_first_rule_and_the_first_shows_as_numbers(self):
        self.assertEqual(answers([1, 0, 3, 0, 0, 1, 3, 1, 0, 1]), [1, 0])
        calls = [1, 0, 3, 0, 0, 1, 3, 1, 0, 1, 1, 0, 3, 1, 0, 1, 3, 2, 1, 0,
                 1, 0, 3, 0, 0, 1, 3, 2, 1, 2, 4, 0, 3, 0, 0, 1, 3, 2, 0, 1]
        self.assertEqual(answers(calls), [1, 0, 1, 1, 1, 2, 10, 3, 0, 50, 51, 1, 50, 51, 2, 51, 50])

    def test_the_first_spare_and_within_0_as_numbers(self):
        book_0 = [1, 0, 3, 0, 0, 1, 3, 1, 0, 1, 1, 0, 3, 1, 0, 1, 3, 2, 1, 0,
                  1, 0, 3, 0, 0, 1, 3, 2, 1, 2]
        book_1 = [1, 1, 3, 0, 0, 1, 3, 1, 0, 1, 1, 1, 3, 1, 0, 1, 3, 2, 1, 0]
        told = [1, 0, 1, 1, 1, 2, 1, 0, 1, 1]
        self.assertEqual(answers(book_0 + book_1 + [5, 0]), told + [2, 1, 2])
        self.assertEqual(answers(book_0 + book_1 + [6, 0, 2, 0, 0, 7, 0]),
                         told + [1, 2, 1, 1, 2, 1, 0])

    def test_the_criterion_fails_behind_the_last_rule_of_book_1(self):
        cyclic = BOOKS + [rule(1, "2 0 1", "2 1 2")]
        told = results(cyclic + [follows(1, "0 0 1", "1 0 1"), follows(0, "0 0 1", "1 0 1")])
        self.assertEqual(told[-2:], [[-6], [1]])


if __name__ == "__main__":
    unittest.main()
