"""The examples of the document that begins, rule, drop, follows and shows answer."""

import unittest

from rulebooksdesk.implied import answers
from tests.helper import book_of, drop, follows, results, rule, shows, shown

BOOKS = (book_of(0, [("0 0 1", "1 0 1"), ("1 0 1", "2 1 0"), ("0 0 1", "2 1 2")])
         + book_of(1, [("0 0 1", "1 0 1"), ("1 0 1", "2 1 0")]))


class Examples(unittest.TestCase):
    def test_the_rows_in_their_order(self):
        rows = [
            (follows(0, "0 0 1", "2 1 0"), [1]),
            (follows(0, "0 0 1", "2 0 1"), [0]),
            (shows(0, "0 0 1", "2 0 1"), shown("0 50 51, 1 50 51, 2 51 50")),
            # The document thins the book here, which removes its rule 2.
            (drop(0, 2), [2]),
            (drop(0, 0), [1]),
            (follows(0, "0 0 1 1 0 2", "2 2 0"), [1]),
            (shows(0, "1 0 1", "2 1 0"), [-3]),
            (rule(1, "2 0 1", "2 1 2"), [2]),
            (rule(2, "0 0 1", "0 0 1"), [-2]),
            (drop(1, 3), [-2]),
        ]
        told = results(BOOKS + [call for call, _ in rows])
        self.assertEqual(told[:5], [[0], [1], [2], [0], [1]])
        self.assertEqual(told[5:], [expected for _, expected in rows])

    def test_the_first_rule_and_the_first_shows_as_numbers(self):
        self.assertEqual(answers([1, 0, 3, 0, 0, 1, 3, 1, 0, 1]), [1, 0])
        calls = [1, 0, 3, 0, 0, 1, 3, 1, 0, 1, 1, 0, 3, 1, 0, 1, 3, 2, 1, 0,
                 1, 0, 3, 0, 0, 1, 3, 2, 1, 2, 4, 0, 3, 0, 0, 1, 3, 2, 0, 1]
        self.assertEqual(answers(calls), [1, 0, 1, 1, 1, 2, 10, 3, 0, 50, 51, 1, 50, 51, 2, 51, 50])

    def test_the_criterion_fails_behind_the_last_rule_of_book_1(self):
        cyclic = BOOKS + [rule(1, "2 0 1", "2 1 2")]
        told = results(cyclic + [follows(1, "0 0 1", "1 0 1"), follows(0, "0 0 1", "1 0 1")])
        self.assertEqual(told[-2:], [[-6], [1]])


if __name__ == "__main__":
    unittest.main()
