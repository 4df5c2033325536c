"""The document's requirements, over many books and against the document's words followed plainly."""

import itertools
import random
import unittest

from tests.helper import (atoms_of, book_of, document_consequences, document_follows, follows,
                          holds, random_atoms, random_book, random_pair, result, results, shows)

MOST_STEPS = 12


def small_books(seed, count, tables=4, variables=5):
    """Books that satisfy the criterion, each with a rule whose chase is short."""
    picker = random.Random(seed)
    while count:
        pairs = random_book(picker, tables, variables)
        asked = random_pair(picker, tables, variables)
        facts = document_consequences(pairs, asked[0], MOST_STEPS)
        if facts is not None:
            count -= 1
            yield pairs, asked, facts


def facts_shown(told):
    return {tuple(told[at:at + 3]) for at in range(1, len(told), 3)}


class AgainstTheWords(unittest.TestCase):
    def test_many_books(self):
        seen = [0, 0]
        for count, tables, variables in ((700, 4, 5), (700, 2, 4), (700, 1, 3)):
            for pairs, asked, facts in small_books(tables, count, tables, variables):
                expected = document_follows(facts, *asked)
                seen[expected] += 1
                told = results(book_of(0, pairs) + [follows(0, *asked), shows(0, *asked)])[-2:]
                listed = [number for fact in sorted(facts) for number in fact]
                self.assertEqual(told[0], [int(expected)], (pairs, asked))
                self.assertEqual(told[1], [-3] if expected else [len(facts)] + listed,
                                 (pairs, asked))
        self.assertGreater(min(seen), 300)


class Requirement1(unittest.TestCase):
    def test_what_follows_holds_wherever_the_rules_hold(self):
        places = list(itertools.product(range(2), range(2), range(2)))
        sets = [[fact for fact, there in zip(places, chosen) if there]
                for chosen in itertools.product((False, True), repeat=len(places))]
        for pairs, asked, _ in small_books(101, 60, 2, 3):
            if result(book_of(0, pairs) + [follows(0, *asked)]) == [1]:
                for facts in sets:
                    if not holds(facts, asked):
                        self.assertFalse(all(holds(facts, pair) for pair in pairs), (pairs, asked))


class Requirement2(unittest.TestCase):
    def test_all_rules_hold_in_the_facts_and_the_given_rule_does_not(self):
        seen = 0
        for pairs, asked, _ in small_books(102, 800, 3, 4):
            told = results(book_of(1, pairs) + [follows(1, *asked), shows(1, *asked)])[-2:]
            if told[0] == [1]:
                self.assertEqual(told[1], [-3])
                continue
            seen += 1
            facts = facts_shown(told[1])
            self.assertEqual(len(told[1]), 1 + 3 * told[1][0])
            self.assertEqual(len(facts), told[1][0])
            self.assertTrue(all(holds(facts, pair) for pair in pairs))
            self.assertFalse(holds(facts, asked))
        self.assertGreater(seen, 200)


class Requirement5(unittest.TestCase):
    def test_a_head_of_atoms_of_the_body_follows_from_the_empty_book(self):
        picker = random.Random(105)
        for _ in range(300):
            body = random_atoms(picker, 4, 5)
            atoms = atoms_of(body)
            head = [number for atom in picker.choices(atoms, k=picker.randint(1, 2))
                    for number in atom]
            self.assertEqual(results([follows(0, body, head), shows(1, body, head)]), [[1], [-3]])

    def test_each_rule_follows_from_its_own_book(self):
        for pairs, _, _ in small_books(106, 300, 3, 5):
            for pair in pairs:
                if document_consequences(pairs, pair[0], MOST_STEPS) is not None:
                    told = results(book_of(0, pairs) + [follows(0, *pair), shows(0, *pair)])
                    self.assertEqual(told[-2:], [[1], [-3]])


class Requirement6(unittest.TestCase):
    def test_what_follows_from_a_book_that_follows(self):
        picker = random.Random(107)
        seen = 0
        for first, _, _ in small_books(107, 400, 2, 3):
            second = random_book(picker, 2, 3)
            asked = random_pair(picker, 2, 3)
            bodies = [pair[0] for pair in second] + [asked[0]]
            if any(document_consequences(pairs, body, MOST_STEPS) is None
                   for pairs in (first, second) for body in bodies):
                continue
            told = results(book_of(0, first) + book_of(1, second)
                           + [follows(0, *pair) for pair in second]
                           + [follows(1, *asked), follows(0, *asked)])
            if all(answer == [1] for answer in told[len(first) + len(second):-1]):
                seen += 1
                self.assertEqual(told[-1], [1], (first, second, asked))
        self.assertGreater(seen, 30)


if __name__ == "__main__":
    unittest.main()
