"""Wrong inputs, the order of the errors, and that an error changes nothing."""

import unittest

from tests.helper import (CYCLE, begins, book_of, drop, follows, result, results, rule, same, shows,
                          spare, thin, within)

LARGEST = 4294967295
FINE = ("0 0 1", "1 0 1")
WITH_A_RULE = {"rule": rule, "follows": follows, "shows": shows}
WITH_A_BOOK = (spare, thin, within)
WRONG_BOOKS = (2, 3, 4, LARGEST)


def each_number_replaced(given, tables, variables):
    """The list with each of its numbers replaced in turn by those of its kind."""
    for place in range(len(given)):
        for number in tables if place % 3 == 0 else variables:
            yield given[:place] + [number] + given[place + 1:]


class NotARule(unittest.TestCase):
    def expect(self, refused, body, head):
        for name, call in WITH_A_RULE.items():
            told = result([call(0, body, head)])
            self.assertEqual(told == [-1], refused, (name, body, head))

    def test_lengths(self):
        for size in range(21):
            refused = size not in (3, 6)
            self.expect(refused, [0] * size, "1 0 0")
            self.expect(refused, [0] * size, "1 0 0 1 0 0")
            self.expect(refused, "1 0 0", [0] * size)
            self.expect(refused, "1 0 0 1 0 0", [0] * size)

    def test_tables_and_variables_behind_the_last(self):
        for given in ([0, 0, 1], [3, 4, 4, 3, 4, 4]):
            for wrong in each_number_replaced(given, (4, 5, 100, LARGEST), (5, 6, 100, LARGEST)):
                self.expect(True, wrong, "1 0 1")
                self.expect(True, "1 0 1", wrong)

    def test_each_table_and_variable_up_to_the_last(self):
        for given in ([0, 0, 1], [3, 4, 4, 3, 4, 4]):
            for fine in each_number_replaced(given, range(4), range(5)):
                self.expect(False, fine, "1 0 1")
                self.expect(False, "1 0 1", fine)

    def test_wrong_numbers_in_lists_of_wrong_lengths(self):
        self.expect(True, [LARGEST] * 20, [LARGEST] * 20)
        self.expect(True, [LARGEST], [])
        self.expect(True, [], [])


class WrongBooks(unittest.TestCase):
    def test_every_operation_with_a_book(self):
        for book in WRONG_BOOKS:
            for call in WITH_A_RULE.values():
                self.assertEqual(result(book_of(0, [FINE]) + [call(book, *FINE)]), [-2])
            for call in WITH_A_BOOK:
                self.assertEqual(result(book_of(0, [FINE]) + [call(book)]), [-2])
            self.assertEqual(result(book_of(0, [FINE]) + [drop(book, 0)]), [-2])


class TheOrderOfTheErrors(unittest.TestCase):
    def test_follows_and_shows(self):
        for call in (follows, shows):
            for book in WRONG_BOOKS:
                self.assertEqual(result([call(book, "0 0", "1 0 1")]), [-1])
                self.assertEqual(result([call(book, "0 0 1", "1 0 5")]), [-1])
                self.assertEqual(result(book_of(0, [CYCLE]) + [call(book, *FINE)]), [-2])
            self.assertEqual(result(book_of(0, [CYCLE]) + [call(0, "4 0 1", "1 0 1")]), [-1])
            self.assertEqual(result(book_of(0, [CYCLE]) + [call(0, *FINE)]), [-6])

    def test_shows_for_a_rule_that_follows(self):
        plain = ("1 0 1", "1 0 1")
        self.assertEqual(result([shows(0, *plain)]), [-3])
        self.assertEqual(result([shows(2, *plain)]), [-2])
        self.assertEqual(result(book_of(0, [CYCLE]) + [shows(0, *plain)]), [-6])
        self.assertEqual(result([shows(0, "1 0 5", "1 0 5")]), [-1])

    def test_spare_thin_and_within(self):
        both = book_of(0, [CYCLE]) + book_of(1, [CYCLE])
        for call in WITH_A_BOOK:
            for book in WRONG_BOOKS:
                self.assertEqual(result(both + [call(book)]), [-2])
            for book in (0, 1):
                self.assertEqual(result(both + [call(book)]), [-6])
        self.assertEqual(result(both + [same()]), [-6])

    def test_rule(self):
        full = book_of(0, [CYCLE] * 3)
        self.assertEqual(result(full + [rule(2, "0 0", "1 0 5")]), [-2])
        self.assertEqual(result(full + [rule(0, "0 0", "1 0 5")]), [-1])
        self.assertEqual(result(full + [rule(0, *FINE)]), [-7])


class AnErrorChangesNothing(unittest.TestCase):
    BOOKS = (book_of(0, [FINE, ("1 0 1", "2 1 0"), ("0 0 1", "2 1 2")])
             + book_of(1, [CYCLE, FINE]))
    # What the books answer behind an error, down to the number of their rules.
    ASKED = [follows(0, *FINE), follows(0, "1 0 1", "2 1 0"), shows(0, "0 0 1", "3 0 0"),
             drop(0, 2), follows(0, "0 0 1", "2 1 2"), follows(1, *FINE), drop(1, 0),
             follows(1, *FINE), follows(1, *CYCLE), drop(0, 0), drop(0, 0), drop(0, 0),
             drop(1, 0), drop(1, 0)]
    ERRORS = [
        (rule(2, *FINE), -2), (rule(LARGEST, *FINE), -2), (rule(1, "0 0 1", "1 0 5"), -1),
        (rule(1, "4 0 1", "1 0 1"), -1), (rule(1, "", "1 0 1"), -1), (rule(0, *FINE), -7),
        (drop(2, 0), -2), (drop(0, 3), -2), (drop(1, 2), -2), (drop(1, LARGEST), -2),
        (follows(0, "0 0", "1 0 1"), -1), (follows(2, *FINE), -2), (follows(1, *FINE), -6),
        (shows(0, "0 0", "1 0 1"), -1), (shows(2, *FINE), -2), (shows(1, *FINE), -6),
        (shows(0, *FINE), -3),
        (spare(2), -2), (spare(LARGEST), -2), (spare(1), -6), (thin(2), -2), (thin(LARGEST), -2),
        (thin(1), -6), (within(2), -2), (within(LARGEST), -2), (within(1), -6), (same(), -6),
    ]

    def test_both_books_are_as_they_were(self):
        expected = results(self.BOOKS + self.ASKED)
        for error, number in self.ERRORS:
            told = results(self.BOOKS + [error] + self.ASKED)
            self.assertEqual(told.pop(len(self.BOOKS)), [number], error)
            self.assertEqual(told, expected, error)

    def test_wherever_the_errors_stand(self):
        calls = self.BOOKS + self.ASKED + [begins()] + self.BOOKS
        expected = results(calls)
        errors = [rule(3, *FINE), rule(0, "0 0 1 1", "1 0 1"), drop(4, 0), drop(1, 3), spare(5),
                  thin(2), within(3)]
        for place in range(len(calls) + 1):
            told = results(calls[:place] + errors + calls[place:])
            self.assertEqual(told[place:place + 7], [[-2], [-1], [-2], [-2], [-2], [-2], [-2]])
            self.assertEqual(told[:place] + told[place + 7:], expected)

    def test_asking_changes_nothing_either(self):
        expected = results(self.BOOKS + self.ASKED)
        for asked in (follows(0, *FINE), shows(0, "0 0 1", "3 0 0"), follows(0, "2 0 1", "0 0 1"),
                      spare(0), within(0)):
            told = results(self.BOOKS + [asked] + self.ASKED)
            self.assertEqual(told[:5] + told[6:], expected)

    def test_spare_within_and_same_change_nothing(self):
        twins, others = [FINE, ("0 3 4", "1 3 4"), FINE], [("0 0 1", "0 0 2"), ("1 0 1", "2 0 1")]
        asked = [spare(0), spare(1), within(0), within(1), same()]
        apart = [follows(0, *FINE), drop(0, 2), follows(0, *FINE), drop(0, 0), drop(0, 0),
                 follows(0, *FINE), follows(1, *others[1]), drop(1, 0), follows(1, *others[1]),
                 drop(1, 0), drop(1, 0)]
        for first, second in ((twins, others), (others, twins), (twins, [FINE])):
            books = book_of(0, first) + book_of(1, second)
            expected = results(books + apart)
            told = results(books + asked + apart)
            self.assertEqual(told[:len(books)] + told[len(books) + 5:], expected)
            again = results(books + asked * 2)[len(books):]
            self.assertEqual(again[:5], again[5:])


if __name__ == "__main__":
    unittest.main()
