"""How calls are handed in, how answers are given back, and that nothing is kept."""

import unittest

from rulebooksdesk.implied import answers
from tests.helper import (begins, book_of, drop, follows, result, results, rule, same, shows, spare,
                          thin, within)

COPY = ("0 0 1", "1 0 1")


def joined(calls):
    return [number for call in calls for number in call]


class Answers(unittest.TestCase):
    def test_each_answer_has_its_count_ahead(self):
        calls = [begins(), rule(0, *COPY), follows(0, *COPY), drop(0, 0), drop(0, 0),
                 shows(0, "0 0 1 1 2 3", "2 0 1")]
        self.assertEqual(answers(joined(calls)),
                         [1, 0, 1, 0, 1, 1, 1, 0, 1, -2, 7, 2, 0, 50, 51, 1, 52, 53])
        calls = [rule(0, *COPY), rule(0, *COPY), spare(0), within(1), same(), thin(0), spare(0),
                 within(0), thin(1), spare(2), thin(3), within(4)]
        self.assertEqual(answers(joined(calls)),
                         [1, 0, 1, 1, 3, 2, 0, 1, 3, 2, 0, 1, 1, 0, 1, 1, 1, 0, 1, 0, 1, 0,
                          1, -2, 1, -2, 1, -2])

    def test_a_single_call(self):
        self.assertEqual(answers([0]), [1, 0])
        self.assertEqual(answers([2, 0, 0]), [1, -2])
        self.assertEqual(answers([3, 0, 0, 0]), [1, -1])
        self.assertEqual(answers([5, 1]), [1, 0])
        self.assertEqual(answers([6, 1]), [1, 0])
        self.assertEqual(answers([7, 1]), [1, 0])
        self.assertEqual(answers([8]), [1, 1])

    def test_rows_are_read_by_their_lengths(self):
        for body_size in range(21):
            for head_size in range(21):
                calls = [rule(0, [0] * body_size, [1] * head_size), drop(0, 0), begins()]
                fits = body_size in (3, 6) and head_size in (3, 6)
                expected = [[0], [0], [0]] if fits else [[-1], [-2], [0]]
                self.assertEqual(results(calls), expected)

    def test_body_comes_first(self):
        self.assertEqual(result([rule(0, "0 0 1", "1 1 0"), follows(0, "0 2 3", "1 3 2")]), [1])
        self.assertEqual(result([rule(0, "0 0 1", "1 1 0"), follows(0, "1 3 2", "0 2 3")]), [0])

    def test_sixty_calls(self):
        calls = [rule(0, "0 0 1 1 2 3", "2 0 1 3 2 3"), drop(0, 0)] * 24
        calls += [shows(1, "0 0 1", "1 0 1")] * 12
        self.assertEqual(results(calls), [[0], [0]] * 24 + [[1, 0, 50, 51]] * 12)

    def test_twelve_calls_that_each_lead_to_several_chases_of_many_steps(self):
        pairs = [("1 1 0 1 1 2", "3 3 3 3 4 0"), ("0 3 4 0 1 2", "2 4 0 0 0 2"),
                 ("1 4 0 3 3 1", "0 0 1 1 4 4")]
        books = book_of(0, pairs) + book_of(1, pairs)
        told = results(books + [same(), spare(0), within(0), within(1)] * 3)
        self.assertEqual(told[6:], [[1], [0], [0], [0]] * 3)
        told = results(books + [thin(0), thin(1), same()] * 4)
        self.assertEqual(told[6:], [[3], [3], [1]] * 4)

    def test_sixty_calls_of_any_kind(self):
        calls = [begins(), rule(0, *COPY), rule(1, *COPY), rule(1, *COPY)] * 12
        for at, asked in enumerate([spare(1), thin(1), within(0), same()] * 3):
            calls.insert(5 * at + 4, asked)
        told = results(calls)
        self.assertEqual(len(told), 60)
        self.assertEqual(told[4::5], [[2, 0, 1], [1], [0], [1]] * 3)

    def test_whole_numbers_only(self):
        calls = [begins(), rule(0, *COPY), follows(0, *COPY), follows(1, *COPY), same(), spare(0),
                 within(1), thin(0), drop(0, 0), same(), shows(0, *COPY), shows(2, *COPY)]
        told = answers(joined(calls))
        self.assertIs(type(told), list)
        self.assertEqual({type(number) for number in told}, {int})

    def test_only_an_error_is_below_zero_and_it_stands_alone(self):
        calls = [rule(0, *COPY), rule(0, "0", "0"), rule(2, *COPY), drop(0, 1),
                 shows(0, *COPY), shows(0, "0 0 1", "2 0 1"), follows(0, "", ""), spare(0),
                 spare(2), thin(0), thin(2), within(0), within(1), within(2), same()]
        for told in results(calls):
            self.assertTrue(len(told) == 1 or min(told) >= 0)


class NothingIsKept(unittest.TestCase):
    def test_what_is_handed_in_is_not_changed(self):
        calls = joined([rule(0, *COPY), rule(1, "0 0 1", "1 1 2"), rule(2, *COPY), drop(0, 0),
                        rule(0, [0] * 20, []), follows(1, *COPY), shows(1, *COPY), rule(0, *COPY),
                        rule(0, *COPY), spare(0), within(0), within(1), same(), thin(0), thin(2),
                        begins()])
        before = list(calls)
        answers(calls)
        self.assertEqual(calls, before)

    def test_what_is_given_back_is_a_new_list_each_time(self):
        first = answers([0])
        first.append(7)
        self.assertEqual(answers([0]), [1, 0])

    def test_a_second_list_begins_with_two_empty_books(self):
        calls = [rule(0, *COPY), rule(0, *COPY), rule(1, *COPY)]
        self.assertEqual(results(calls), [[0], [1], [0]])
        self.assertEqual(results(calls), [[0], [1], [0]])
        self.assertEqual(results([drop(0, 0), drop(1, 0), follows(0, *COPY), follows(1, *COPY),
                                  spare(0), thin(0), within(0), within(1), same()]),
                         [[-2], [-2], [0], [0], [0], [0], [0], [0], [1]])

    def test_a_second_list_does_not_know_what_was_thinned(self):
        calls = [rule(0, *COPY), rule(0, *COPY), spare(0), thin(0), spare(0), within(1)]
        for _ in range(2):
            self.assertEqual(results(calls), [[0], [1], [2, 0, 1], [1], [0], [1, 0]])

    def test_a_second_chase_starts_anew_with_its_unknown_values(self):
        calls = book_of(0, [("0 0 1", "1 1 2")]) + [shows(0, "0 0 1", "2 0 1")] * 2
        self.assertEqual(results(calls)[1:], [[2, 0, 50, 51, 1, 51, 100]] * 2)


if __name__ == "__main__":
    unittest.main()
