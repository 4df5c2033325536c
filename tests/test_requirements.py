"""The requirements, over many books and against the document's words followed plainly."""

import itertools
import random
import unittest

from tests.helper import (LongChase, atoms_of, book_of, document_consequences, document_criterion,
                          document_follows, document_spare, document_thin, document_within, drop,
                          follows, holds, random_atoms, random_book, random_pair, result, results,
                          same, shows, spare, thin, within)

MOST_STEPS = 12


def small_books(seed, count, tables=4, variables=5):
    """Books that satisfy the criterion, each with a rule whose chase is short."""
    picker = random.Random(seed)
    while count:
        pairs = random_book(picker, tables, variables)
        asked = random_pair(picker, tables, variables)
        facts = document_consequences(pairs, asked[0], MOST_STEPS)
        if facts is not None:
            count -= 1
            yield pairs, asked, facts


def likely_book(picker, first, tables, variables):
    """A book some of whose rules may follow from the first one."""
    while True:
        pairs = random_book(picker, tables, variables)
        pairs = (pairs + picker.sample(first, picker.randint(0, len(first))))[-3:]
        picker.shuffle(pairs)
        if document_criterion(pairs):
            return pairs


def book_pairs(seed, count):
    """Two books that satisfy the criterion, and all that the document tells of them."""
    picker = random.Random(seed)
    while count:
        tables, variables = picker.choice(((1, 3), (2, 3), (2, 4), (4, 5)))
        first = likely_book(picker, [], tables, variables)
        second = likely_book(picker, first, tables, variables)
        try:
            told = [document_spare(first), document_spare(second), document_within(first, second),
                    document_within(second, first), document_thin(first), document_thin(second)]
        except LongChase:
            continue
        count -= 1
        yield first, second, told


def all_small_sets():
    """All sets of facts of two tables and two values."""
    places = list(itertools.product(range(2), range(2), range(2)))
    for chosen in itertools.product((False, True), repeat=len(places)):
        yield [fact for fact, there in zip(places, chosen) if there]


def book_holds(facts, pairs):
    return all(holds(facts, pair) for pair in pairs)


def facts_shown(told):
    return {tuple(told[at:at + 3]) for at in range(1, len(told), 3)}


class AgainstTheWords(unittest.TestCase):
    def test_many_books(self):
        seen = [0, 0]
        for count, tables, variables in ((700, 4, 5), (700, 2, 4), (700, 1, 3)):
            for pairs, asked, facts in small_books(tables, count, tables, variables):
                expected = document_follows(facts, *asked)
                seen[expected] += 1
                told = results(book_of(0, pairs) + [follows(0, *asked), shows(0, *asked)])[-2:]
                listed = [number for fact in sorted(facts) for number in fact]
                self.assertEqual(told[0], [int(expected)], (pairs, asked))
                self.assertEqual(told[1], [-3] if expected else [len(facts)] + listed,
                                 (pairs, asked))
        self.assertGreater(min(seen), 300)

    def test_many_pairs_of_books(self):
        seen = {"spare": 0, "missing": 0, "same": 0, "thinned": 0}
        for first, second, told in book_pairs(21, 900):
            missing = told[2] + told[3]
            calls = book_of(0, first) + book_of(1, second)
            asked = [spare(0), spare(1), within(0), within(1), same(), thin(0), thin(1)]
            expected = [[len(indexes)] + indexes for indexes in told[:4]]
            expected += [[0 if missing else 1], [len(told[4])], [len(told[5])]]
            self.assertEqual(results(calls + asked)[len(calls):], expected, (first, second))
            seen["spare"] += bool(told[0])
            seen["missing"] += bool(missing)
            seen["same"] += not missing
            seen["thinned"] += len(told[4]) < len(first)
        self.assertGreater(min(seen.values()), 100)


class Requirement1(unittest.TestCase):
    def test_what_follows_holds_wherever_the_rules_hold(self):
        for pairs, asked, _ in small_books(101, 60, 2, 3):
            if result(book_of(0, pairs) + [follows(0, *asked)]) == [1]:
                for facts in all_small_sets():
                    if not holds(facts, asked):
                        self.assertFalse(book_holds(facts, pairs), (pairs, asked))


class Requirement2(unittest.TestCase):
    def test_all_rules_hold_in_the_facts_and_the_given_rule_does_not(self):
        seen = 0
        for pairs, asked, _ in small_books(102, 800, 3, 4):
            told = results(book_of(1, pairs) + [follows(1, *asked), shows(1, *asked)])[-2:]
            if told[0] == [1]:
                self.assertEqual(told[1], [-3])
                continue
            seen += 1
            facts = facts_shown(told[1])
            self.assertEqual(len(told[1]), 1 + 3 * told[1][0])
            self.assertEqual(len(facts), told[1][0])
            self.assertTrue(book_holds(facts, pairs))
            self.assertFalse(holds(facts, asked))
        self.assertGreater(seen, 200)


class Requirement3(unittest.TestCase):
    def test_the_books_hold_in_the_same_sets_of_facts(self):
        picker = random.Random(103)
        seen = 0
        while seen < 40:
            first = random_book(picker, 2, 3, fewest=1)
            second = likely_book(picker, first, 2, 3)
            if self.equivalent(first, second):
                seen += 1
                for facts in all_small_sets():
                    self.assertEqual(book_holds(facts, first), book_holds(facts, second),
                                     (first, second))

    def equivalent(self, first, second):
        try:
            told = document_within(first, second) + document_within(second, first)
        except LongChase:
            return False
        answer = result(book_of(0, first) + book_of(1, second) + [same()])
        self.assertEqual(answer, [0 if told else 1], (first, second))
        return not told

    def test_otherwise_there_are_facts_in_which_only_one_of_the_books_holds(self):
        seen = 0
        for first, second, told in book_pairs(203, 300):
            calls = book_of(0, first) + book_of(1, second)
            answer = result(calls + [same()])
            self.assertEqual(answer == [0], bool(told[2] or told[3]))
            for book, pairs, others, missing in ((0, first, second, told[2]),
                                                 (1, second, first, told[3])):
                for index in missing:
                    seen += 1
                    facts = facts_shown(result(calls + [shows(book, *others[index])]))
                    self.assertTrue(book_holds(facts, pairs))
                    self.assertFalse(book_holds(facts, others))
        self.assertGreater(seen, 200)


class Requirement4(unittest.TestCase):
    def test_the_book_consists_of_rules_that_it_had(self):
        for pairs, _, told in book_pairs(104, 400):
            left = told[4]
            probe = [shows(0, *pair) for pair in pairs]
            probe += [drop(0, 0)] + [follows(0, *pair) for pair in pairs] + [drop(0, 0)] * 3
            thinned = results(book_of(0, pairs) + [thin(0)] + probe)[len(pairs):]
            self.assertEqual(thinned[0], [len(left)])
            self.assertEqual(thinned[1:], results(book_of(0, left) + probe)[len(left):], pairs)

    def test_it_holds_in_the_same_sets_of_facts(self):
        for pairs, _, _ in book_pairs(204, 400):
            calls = book_of(0, pairs) + book_of(1, pairs) + [thin(0), same(), within(0), within(1)]
            self.assertEqual(results(calls)[-3:], [[1], [0], [0]], pairs)

    def test_none_of_its_rules_follows_from_the_others(self):
        for pairs, _, _ in book_pairs(304, 400):
            told = results(book_of(1, pairs) + [thin(1), spare(1), thin(1)])[-3:]
            self.assertEqual(told, [told[0], [0], told[0]], pairs)


class Requirement5(unittest.TestCase):
    def test_a_head_of_atoms_of_the_body_follows_from_the_empty_book(self):
        picker = random.Random(105)
        for _ in range(300):
            body = random_atoms(picker, 4, 5)
            atoms = atoms_of(body)
            head = [number for atom in picker.choices(atoms, k=picker.randint(1, 2))
                    for number in atom]
            self.assertEqual(results([follows(0, body, head), shows(1, body, head)]), [[1], [-3]])

    def test_each_rule_follows_from_its_own_book(self):
        for pairs, _, _ in small_books(106, 300, 3, 5):
            for pair in pairs:
                if document_consequences(pairs, pair[0], MOST_STEPS) is not None:
                    told = results(book_of(0, pairs) + [follows(0, *pair), shows(0, *pair)])
                    self.assertEqual(told[-2:], [[1], [-3]])


class Requirement6(unittest.TestCase):
    def test_what_follows_from_a_book_that_follows(self):
        picker = random.Random(107)
        seen = 0
        for first, _, _ in small_books(107, 400, 2, 3):
            second = random_book(picker, 2, 3)
            asked = random_pair(picker, 2, 3)
            bodies = [pair[0] for pair in second] + [asked[0]]
            if any(document_consequences(pairs, body, MOST_STEPS) is None
                   for pairs in (first, second) for body in bodies):
                continue
            told = results(book_of(0, first) + book_of(1, second)
                           + [follows(0, *pair) for pair in second]
                           + [follows(1, *asked), follows(0, *asked)])
            if all(answer == [1] for answer in told[len(first) + len(second):-1]):
                seen += 1
                self.assertEqual(told[-1], [1], (first, second, asked))
        self.assertGreater(seen, 30)

    def test_what_follows_from_a_book_within_which_no_rule_is_missing(self):
        picker = random.Random(108)
        seen = 0
        for first, second, told in book_pairs(108, 400):
            asked = random_pair(picker, 2, 3)
            if any(document_consequences(pairs, asked[0], MOST_STEPS) is None
                   for pairs in (first, second)):
                continue
            told = results(book_of(0, first) + book_of(1, second)
                           + [within(0), follows(1, *asked), follows(0, *asked)])[-3:]
            if told[:2] == [[0], [1]]:
                seen += 1
                self.assertEqual(told[2], [1], (first, second, asked))
        self.assertGreater(seen, 20)


if __name__ == "__main__":
    unittest.main()
