"""The criterion on the rules of a book, which ensures that the chase ends.

A position is a tuple: the table and 0 or 1 for its first or second value.
An edge is a tuple: its start, its end, and whether it is special.
"""


def positions_of(variable, atoms):
    """The positions of the variable in the atoms, the first value of an atom first."""
    found = []
    for table, first, second in atoms:
        if first == variable:
            found.append((table, 0))
        if second == variable:
            found.append((table, 1))
    return found


def edges_from(start, variable, rule):
    """The edges of the rule from one position that the variable has in its body."""
    edges = [(start, end, False) for end in positions_of(variable, rule.head)]
    for fresh in rule.existential:
        edges.extend([(start, end, True) for end in positions_of(fresh, rule.head)])
    return edges


def edges_of(rules):
    """The edges of all rules, in the order of the rules."""
    edges = []
    for rule in rules:
        for variable in rule.shared:
            for start in positions_of(variable, rule.body):
                edges.extend(edges_from(start, variable, rule))
    return edges


def reached_from(position, edges):
    """The positions that no edge, one or more lead to from the position."""
    reached = {position: True}
    waiting = [position]
    while waiting:
        here = waiting.pop()
        for start, end, special in edges:
            if start == here and end not in reached:
                reached[end] = True
                waiting.append(end)
    return reached


def satisfies_criterion(rules):
    """Whether no special edge has a start that can be reached from its end."""
    edges = edges_of(rules)
    for start, end, special in edges:
        if special and start in reached_from(end, edges):
            return False
    return True
