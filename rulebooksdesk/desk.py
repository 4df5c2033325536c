"""The two books and the operations on them."""

from rulebooksdesk.chase import consequences, follows_from, shown_by
from rulebooksdesk.criterion import satisfies_criterion
from rulebooksdesk.refusals import BookIsFull, CriterionFails, NoSuchPlace, RuleFollows
from rulebooksdesk.rules import read_rule
from rulebooksdesk.spares import spare_ones, strays, thinned


MOST_RULES = 3


class Desk:
    """Two books of rules. An operation gives back the list of numbers that are its result.

    Each operation makes its checks in the order in which its errors are listed, and changes
    a book only behind the last of them.
    """

    def __init__(self):
        self.books = [[], []]

    def begins(self):
        """Empties both books."""
        self.books = [[], []]
        return [0]

    def rule(self, book, body, head):
        """Adds a rule to the book."""
        rules = self.rules_in(book)
        added = read_rule(body, head)
        if len(rules) == MOST_RULES:
            raise BookIsFull()
        rules.append(added)
        return [len(rules) - 1]

    def drop(self, book, index):
        """Removes a rule from the book."""
        rules = self.rules_in(book)
        if index >= len(rules):
            raise NoSuchPlace()
        rules.pop(index)
        return [len(rules)]

    def follows(self, book, body, head):
        """Tells whether the rule follows from the book."""
        asked = read_rule(body, head)
        return [1 if follows_from(asked, self.usable_rules_in(book)) else 0]

    def shows(self, book, body, head):
        """Gives facts in which the rules of the book hold and the rule does not."""
        asked = read_rule(body, head)
        facts = consequences(asked, self.usable_rules_in(book))
        if shown_by(asked, facts):
            raise RuleFollows()
        listed = facts.listed()
        numbers = [len(listed)]
        for fact in listed:
            numbers.extend(fact)
        return numbers

    def spare(self, book):
        """Tells which rules of the book follow from all its other rules."""
        indexes = spare_ones(self.usable_rules_in(book))
        return [len(indexes)] + indexes

    def thin(self, book):
        """Removes rules of the book that follow from its other rules."""
        self.books[book] = thinned(self.usable_rules_in(book))
        return [len(self.books[book])]

    def within(self, book):
        """Tells which rules of the other book do not follow from this book."""
        rules = self.usable_rules_in(book)
        indexes = strays(self.books[1 - book], rules)
        return [len(indexes)] + indexes

    def same(self):
        """Tells whether all rules of each book follow from the other book."""
        first = self.usable_rules_in(0)
        second = self.usable_rules_in(1)
        return [0 if strays(first, second) or strays(second, first) else 1]

    def rules_in(self, book):
        """The rules of the book."""
        if book >= len(self.books):
            raise NoSuchPlace()
        return self.books[book]

    def usable_rules_in(self, book):
        """The rules of the book, which satisfy the criterion."""
        rules = self.rules_in(book)
        if not satisfies_criterion(rules):
            raise CriterionFails()
        return rules
