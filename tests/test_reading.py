"""Each of the nine calls is read with exactly its arguments."""

import unittest

from rulebooksdesk.reading import read_calls


def read(numbers):
    return [(call.operation, call.numbers, call.rows) for call in read_calls(numbers)]


class Reading(unittest.TestCase):
    CALLS = [
        ([0], (0, [], [])),
        ([1, 9, 3, 4, 5, 6, 2, 7, 8], (1, [9], [[4, 5, 6], [7, 8]])),
        ([2, 1, 4294967295], (2, [1, 4294967295], [])),
        ([3, 0, 0, 0], (3, [0], [[], []])),
        ([4, 2, 0, 1, 8], (4, [2], [[], [8]])),
        ([5, 1], (5, [1], [])),
        ([6, 0], (6, [0], [])),
        ([7, 3], (7, [3], [])),
        ([8], (8, [], [])),
    ]

    def test_each_call(self):
        for numbers, expected in self.CALLS:
            self.assertEqual(read(numbers), [expected])

    def test_each_call_behind_each_other(self):
        for first, first_expected in self.CALLS:
            for second, second_expected in self.CALLS:
                self.assertEqual(read(first + second), [first_expected, second_expected])


if __name__ == "__main__":
    unittest.main()
