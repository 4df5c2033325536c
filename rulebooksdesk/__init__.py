"""Two books of rules: whether a rule follows from a book, and facts in which it does not hold."""
