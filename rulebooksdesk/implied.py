"""Answers lists of calls."""

from rulebooksdesk.desk import Desk
from rulebooksdesk.reading import read_calls
from rulebooksdesk.refusals import Refusal


BEGINS = 0
RULE = 1
DROP = 2
FOLLOWS = 3
SHOWS = 4
SPARE = 5
THIN = 6
WITHIN = 7


def applied(desk, call):
    """The result of the call, which may be refused."""
    if call.operation == BEGINS:
        return desk.begins()
    if call.operation == RULE:
        return desk.rule(call.numbers[0], call.rows[0], call.rows[1])
    if call.operation == DROP:
        return desk.drop(call.numbers[0], call.numbers[1])
    if call.operation == FOLLOWS:
        return desk.follows(call.numbers[0], call.rows[0], call.rows[1])
    if call.operation == SHOWS:
        return desk.shows(call.numbers[0], call.rows[0], call.rows[1])
    if call.operation == SPARE:
        return desk.spare(call.numbers[0])
    if call.operation == THIN:
        return desk.thin(call.numbers[0])
    if call.operation == WITHIN:
        return desk.within(call.numbers[0])
    # Every call is one of the nine, so same is what is left.
    return desk.same()


def answers(calls):
    """For each call, in order, how many numbers are answered, then these numbers."""
    desk = Desk()
    told = []
    for call in read_calls(calls):
        try:
            answer = applied(desk, call)
        except Refusal as e:
            answer = [e.number]
        told.append(len(answer))
        told.extend(answer)
    return told
