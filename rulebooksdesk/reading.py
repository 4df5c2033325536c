"""Reads a list of calls that lie one behind another."""


# By the number of a call: how many plain numbers it has, and how many rows behind them.
NUMBERS = (0, 1, 2, 1, 1, 1, 1, 1, 0)
ROWS = (0, 2, 0, 2, 2, 0, 0, 0, 0)


class Call:
    """A call: its number, its plain numbers and its rows."""

    def __init__(self, operation, numbers, rows):
        self.operation = operation
        self.numbers = numbers
        self.rows = rows


def read_calls(calls):
    """The calls in order."""
    found = []
    at = 0
    while at < len(calls):
        operation = calls[at]
        behind = at + 1 + NUMBERS[operation]
        numbers = calls[at + 1:behind]
        rows = []
        while len(rows) < ROWS[operation]:
            start = behind + 1
            behind = start + calls[behind]
            rows.append(calls[start:behind])
        found.append(Call(operation, numbers, rows))
        at = behind
    return found
