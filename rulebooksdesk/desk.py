"""The two books and the operations on them."""

from rulebooksdesk.chase import consequences, shown_by
from rulebooksdesk.criterion import satisfies_criterion
from rulebooksdesk.refusals import BookIsFull, CriterionFails, NoSuchPlace, RuleFollows
from rulebooksdesk.rules import read_rule


MOST_RULES = 3


class Desk:
    """Two books of rules. An operation gives back the list of numbers that are its result.

    Each operation makes its checks in the order in which its errors are listed, and changes
    a book only behind the last of them.
    """

    def __init__(self):
        self.books = [[], []]

    def begins(self):
        """Empties both books."""
        self.books = [[], []]
        return [0]

    def rule(self, book, body, head):
        """Adds a rule to the book."""
        rules = self.rules_in(book)
        added = read_rule(body, head)
        if len(rules) == MOST_RULES:
            raise BookIsFull()
        rules.append(added)
        return [len(rules) - 1]

    def drop(self, book, index):
        """Removes a rule from the book."""
        rules = self.rules_in(book)
        if index >= len(rules):
            raise NoSuchPlace()
        rules.pop(index)
        return [len(rules)]

    def follows(self, book, body, head):
        """Tells whether the rule follows from the book."""
        asked = read_rule(body, head)
        facts = consequences(asked, self.usable_rules_in(book))
        return [1 if shown_by(asked, facts) else 0]

    def shows(self, book, body, head):
        """Gives facts in which the rules of the book hold and the rule does not."""
        asked = read_rule(body, head)
        facts = consequences(asked, self.usable_rules_in(book))
        if shown_by(asked, facts):
            raise RuleFollows()
        listed = facts.listed()
        numbers = [len(listed)]
        for fact in listed:
            numbers.extend(fact)
        return numbers

    def rules_in(self, book):
        """The rules of the book."""
        if book >= len(self.books):
            raise NoSuchPlace()
        return self.books[book]

    def usable_rules_in(self, book):
        """The rules of the book, which satisfy the criterion."""
        rules = self.rules_in(book)
        if not satisfies_criterion(rules):
            raise CriterionFails()
        return rules
