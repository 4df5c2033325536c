"""The errors that an operation returns, each with its number."""


class Refusal(Exception):
    """An operation is refused; the number is what it returns."""

    def __init__(self, number):
        Exception.__init__(self, f"refused with {number}")
        self.number = number


class NotARule(Refusal):
    """The arguments do not form a rule."""

    def __init__(self):
        Refusal.__init__(self, -1)


class NoSuchPlace(Refusal):
    """The book is neither 0 nor 1, or it has no rule with the index."""

    def __init__(self):
        Refusal.__init__(self, -2)


class RuleFollows(Refusal):
    """The rule follows from the book, so there is nothing to show."""

    def __init__(self):
        Refusal.__init__(self, -3)


class CriterionFails(Refusal):
    """The book does not satisfy the criterion."""

    def __init__(self):
        Refusal.__init__(self, -6)


class BookIsFull(Refusal):
    """The book has 3 rules already."""

    def __init__(self):
        Refusal.__init__(self, -7)
