"""begins, rule and drop: ordinary calls, edges, errors and their order."""

import unittest

from tests.helper import begins, book_of, drop, follows, result, results, rule

LARGEST = 4294967295
COPY = ("0 0 1", "1 0 1")
TURN = ("0 0 1", "2 1 0")
LOOP = ("0 0 1", "3 0 0")
THREE = [COPY, TURN, LOOP]
WRONG_BOOKS = (2, 3, 100, LARGEST)


def held(book, pairs=THREE):
    """Calls that tell which of the rules the book has."""
    return [follows(book, *pair) for pair in pairs]


class Begins(unittest.TestCase):
    def test_both_books_become_empty(self):
        calls = book_of(0, THREE) + book_of(1, [COPY]) + [begins()]
        told = results(calls + held(0) + held(1) + [drop(0, 0), drop(1, 0)])
        self.assertEqual(told[4:], [[0]] * 7 + [[-2]] * 2)

    def test_at_the_beginning_and_again_and_again(self):
        self.assertEqual(results([begins(), begins(), rule(0, *COPY), begins(), rule(0, *COPY)]),
                         [[0]] * 5)


class Rules(unittest.TestCase):
    def test_indexes_start_with_0_in_each_book(self):
        calls = [rule(0, *COPY), rule(1, *COPY), rule(1, *TURN), rule(0, *TURN), rule(0, *LOOP)]
        self.assertEqual(results(calls), [[0], [0], [1], [1], [2]])

    def test_a_rule_is_added_to_its_book_alone(self):
        told = results([rule(1, *COPY), follows(0, *COPY), follows(1, *COPY)])
        self.assertEqual(told, [[0], [0], [1]])

    def test_the_same_rule_is_added_twice(self):
        self.assertEqual(results([rule(0, *COPY)] * 3), [[0], [1], [2]])

    def test_1_and_2_atoms(self):
        for body in ("0 0 1", "0 0 1 1 1 2"):
            for head in ("2 0 1", "2 0 1 3 1 4"):
                self.assertEqual(result([rule(0, body, head)]), [0])

    def test_the_last_table_and_variable(self):
        self.assertEqual(result([rule(0, "3 4 4", "3 4 4")]), [0])
        self.assertEqual(result([rule(0, "3 4 4 3 4 4", "3 4 4 3 4 4")]), [0])

    def test_a_rule_that_breaks_the_criterion_is_added(self):
        self.assertEqual(results(book_of(0, [("0 0 1", "0 1 2")] * 3)), [[0], [1], [2]])

    def test_wrong_books(self):
        for book in WRONG_BOOKS:
            self.assertEqual(result([rule(book, *COPY)]), [-2])

    def test_a_book_with_3_rules_is_full(self):
        for book in (0, 1):
            calls = book_of(book, THREE) + [rule(book, *COPY), rule(1 - book, *COPY)]
            self.assertEqual(results(calls)[3:], [[-7], [0]])

    def test_a_full_book_has_room_again_behind_drop(self):
        calls = book_of(0, THREE) + [rule(0, *COPY), drop(0, 1), rule(0, *COPY), rule(0, *COPY)]
        self.assertEqual(results(calls)[3:], [[-7], [2], [2], [-7]])

    def test_the_error_listed_first_is_returned(self):
        full = book_of(0, THREE)
        self.assertEqual(result(full + [rule(2, "0 0", "1 0 1")]), [-2])
        self.assertEqual(result(full + [rule(LARGEST, "4 0 0", "")]), [-2])
        self.assertEqual(result(full + [rule(0, "0 0", "1 0 1")]), [-1])
        self.assertEqual(result(full + [rule(0, "0 0 1", "1 0 5")]), [-1])
        self.assertEqual(result(full + [rule(0, "0 0 1", "1 0 4")]), [-7])


class Drop(unittest.TestCase):
    def test_the_rule_with_the_index_is_removed(self):
        for index in range(3):
            told = results(book_of(1, THREE) + [drop(1, index)] + held(1))
            expected = [[0] if place == index else [1] for place in range(3)]
            self.assertEqual(told[3:], [[2]] + expected)

    def test_indexes_behind_it_decrease(self):
        calls = book_of(0, THREE) + [drop(0, 0), drop(0, 1)] + held(0)
        self.assertEqual(results(calls)[3:], [[2], [1], [0], [1], [0]])
        calls = book_of(0, THREE) + [drop(0, 1), drop(0, 1)] + held(0)
        self.assertEqual(results(calls)[3:], [[2], [1], [1], [0], [0]])

    def test_down_to_the_empty_book(self):
        calls = book_of(0, THREE) + [drop(0, 2), drop(0, 1), drop(0, 0), drop(0, 0)]
        self.assertEqual(results(calls)[3:], [[2], [1], [0], [-2]])

    def test_one_of_two_equal_rules_is_removed(self):
        calls = [rule(0, *COPY), rule(0, *COPY), drop(0, 0), follows(0, *COPY), drop(0, 0),
                 follows(0, *COPY)]
        self.assertEqual(results(calls)[2:], [[1], [1], [0], [0]])

    def test_a_rule_behind_a_dropped_one_has_the_next_index(self):
        calls = book_of(0, THREE) + [drop(0, 0), rule(0, *COPY), drop(0, 2)] + held(0)
        self.assertEqual(results(calls)[3:], [[2], [2], [2], [0], [1], [1]])

    def test_the_other_book_stays(self):
        calls = book_of(0, THREE) + book_of(1, THREE) + [drop(0, 0)] + held(1) + [drop(1, 2)]
        self.assertEqual(results(calls)[6:], [[2], [1], [1], [1], [2]])

    def test_wrong_books(self):
        for book in WRONG_BOOKS:
            self.assertEqual(result(book_of(0, THREE) + [drop(book, 0)]), [-2])

    def test_the_index_of_the_last_rule_and_one_behind_it(self):
        for size in range(4):
            for index in (size, size + 1, 100, LARGEST):
                told = results(book_of(0, THREE[:size]) + [drop(0, index)] + held(0))
                expected = [[1] if place < size else [0] for place in range(3)]
                self.assertEqual(told[size:], [[-2]] + expected)
            if size:
                self.assertEqual(result(book_of(0, THREE[:size]) + [drop(0, size - 1)]), [size - 1])

    def test_an_index_counts_in_its_own_book(self):
        self.assertEqual(result(book_of(0, THREE) + [drop(1, 0)]), [-2])


if __name__ == "__main__":
    unittest.main()
