"""What the tests share: calls written as numbers, and the document's words followed step by step.

The second part is written without the package, so that the two can be held against each other.
"""

import itertools
import signal

from rulebooksdesk.implied import answers

# A chase in which the criterion is forgotten may not end; then the test is to fail.
MOST_SECONDS = 20

# Rules that several tests use: copies from table to table, and what follows from them.
FIRST = ("0 0 1", "1 0 1")
SECOND = ("1 0 1", "2 0 1")
THIRD = ("2 0 1", "3 0 1")
LONG = ("0 0 1", "2 0 1")
BOTH = ("0 0 1", "1 0 1 2 0 1")
FIRST_AGAIN = ("0 4 2", "1 4 2")
TURN = ("0 0 1", "0 1 0")
# Follows from no rules at all.
FREE = ("0 0 1", "0 0 2")
# Breaks the criterion. Its own steps don't lead to further ones unless facts of table 3 are added.
CYCLE = ("0 0 1 3 0 1", "0 1 2")


def numbers(given):
    """A list of numbers, which may be written as a text."""
    return [int(word) for word in given.split()] if isinstance(given, str) else list(given)


def with_rule(operation, book, body, head):
    body, head = numbers(body), numbers(head)
    return [operation, book, len(body), *body, len(head), *head]


def begins():
    return [0]


def rule(book, body, head):
    return with_rule(1, book, body, head)


def drop(book, index):
    return [2, book, index]


def follows(book, body, head):
    return with_rule(3, book, body, head)


def shows(book, body, head):
    return with_rule(4, book, body, head)


def spare(book):
    return [5, book]


def thin(book):
    return [6, book]


def within(book):
    return [7, book]


def same():
    return [8]


def book_of(book, pairs):
    """The calls that add the rules, each a pair of body and head."""
    return [rule(book, body, head) for body, head in pairs]


def out_of_time(number, frame):
    raise AssertionError("the calls take too long")


def answers_in_time(calls):
    signal.signal(signal.SIGALRM, out_of_time)
    signal.alarm(MOST_SECONDS)
    try:
        return answers(calls)
    finally:
        signal.alarm(0)


def results(calls):
    """What is answered to each call, a list for each."""
    told = answers_in_time([number for call in calls for number in call])
    found = []
    at = 0
    for _ in calls:
        end = at + 1 + told[at]
        found.append(told[at + 1:end])
        assert len(found[-1]) == told[at], "an answer is shorter than its count tells"
        at = end
    assert at == len(told), "more is answered than there are calls"
    return found


def result(calls):
    """What is answered to the last call."""
    return results(calls)[-1]


def shown(text):
    """The answer of shows that tells the facts written in the text, one behind a comma each."""
    facts = [numbers(fact) for fact in text.split(",")]
    return [len(facts)] + [number for fact in facts for number in fact]


class LongChase(Exception):
    """A chase takes more steps than were allowed."""


def atoms_of(given):
    given = numbers(given)
    return [tuple(given[at:at + 3]) for at in range(0, len(given), 3)]


def fits(atoms, facts, values):
    """Whether the facts, one for each atom, are the atoms under the values."""
    return all((table, values[a], values[b]) == fact for (table, a, b), fact in zip(atoms, facts))


def document_matches(facts, atoms):
    """The matches of the atoms as the document orders them."""
    for picked in itertools.product(sorted(facts), repeat=len(atoms)):
        values = {}
        for (_, first, second), fact in zip(atoms, picked):
            values[first] = fact[1]
            values[second] = fact[2]
        if fits(atoms, picked, values):
            yield values


def head_holds(facts, head, values):
    """Whether the facts match the head under an assignment that agrees with the values."""
    for found in document_matches(facts, head):
        if all(values.get(variable, found[variable]) == found[variable] for variable in found):
            return True
    return False


def failing_match(facts, pair):
    body, head = atoms_of(pair[0]), atoms_of(pair[1])
    for values in document_matches(facts, body):
        if not head_holds(facts, head, values):
            return values
    return None


def holds(facts, pair):
    return failing_match(facts, pair) is None


def document_chase(facts, pairs, most):
    """The facts that the chase ends with, or None if it takes more steps than the most."""
    facts = set(facts)
    unknown = 100
    for _ in range(most + 1):
        failing = [pair for pair in pairs if not holds(facts, pair)]
        if not failing:
            return facts
        values = dict(failing_match(facts, failing[0]))
        for table, first, second in atoms_of(failing[0][1]):
            for variable in (first, second):
                if variable not in values:
                    values[variable] = unknown
                    unknown += 1
            facts.add((table, values[first], values[second]))
    return None


def document_consequences(pairs, body, most):
    facts = [(table, 50 + first, 50 + second) for table, first, second in atoms_of(body)]
    return document_chase(facts, pairs, most)


def document_follows(facts, body, head):
    variables = {variable for atom in atoms_of(body) for variable in atom[1:]}
    return head_holds(facts, atoms_of(head), {variable: 50 + variable for variable in variables})


def document_implies(pairs, pair, most=12):
    """Whether the pair follows from the pairs; the chase may take no more steps than the most."""
    facts = document_consequences(pairs, pair[0], most)
    if facts is None:
        raise LongChase()
    return document_follows(facts, *pair)


def document_spare(pairs):
    return [place for place, pair in enumerate(pairs)
            if document_implies(pairs[:place] + pairs[place + 1:], pair)]


def document_thin(pairs):
    """The pairs that are still in the book when it is thinned."""
    still = list(enumerate(pairs))
    for place, pair in reversed(list(enumerate(pairs))):
        rest = [(other, kept) for other, kept in still if other != place]
        if document_implies([kept for _, kept in rest], pair):
            still = rest
    return [pair for _, pair in still]


def document_within(pairs, other_pairs):
    return [place for place, pair in enumerate(other_pairs) if not document_implies(pairs, pair)]


def document_edges(pairs):
    """Triples: start, end, whether the edge is special."""
    edges = set()
    for body, head in pairs:
        body, head = atoms_of(body), atoms_of(head)
        in_body = [(v, (atom[0], side)) for atom in body for side, v in enumerate(atom[1:])]
        in_head = [(v, (atom[0], side)) for atom in head for side, v in enumerate(atom[1:])]
        for (variable, start), (other, end) in itertools.product(in_body, in_head):
            if variable not in [v for v, _ in in_head]:
                continue
            if other == variable:
                edges.add((start, end, False))
            if other not in [v for v, _ in in_body]:
                edges.add((start, end, True))
    return edges


def document_criterion(pairs):
    places = list(itertools.product(range(4), range(2)))
    edges = document_edges(pairs)
    reach = {(place, place) for place in places} | {(start, end) for start, end, _ in edges}
    for middle, start, end in itertools.product(places, repeat=3):
        if (start, middle) in reach and (middle, end) in reach:
            reach.add((start, end))
    return not any(special and (end, start) in reach for start, end, special in edges)


def random_atoms(picker, tables, variables):
    return [number for _ in range(picker.randint(1, 2)) for number in
            (picker.randrange(tables), picker.randrange(variables), picker.randrange(variables))]


def random_pair(picker, tables=4, variables=5):
    return random_atoms(picker, tables, variables), random_atoms(picker, tables, variables)


def random_book(picker, tables=4, variables=5, fewest=0):
    """The pairs of a book that satisfies the criterion."""
    while True:
        pairs = [random_pair(picker, tables, variables) for _ in range(picker.randint(fewest, 3))]
        if document_criterion(pairs):
            return pairs
