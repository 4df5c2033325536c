"""Sets of facts, and how they match atoms.

A fact is a tuple: the table and the two values. An assignment is a dict from variables to values.
"""


class Facts:
    """A set of facts."""

    def __init__(self):
        self.held = {}
        # Facts are looked up by what is known of them: the table and each value, or None.
        self.lookup = {}

    def put(self, fact):
        """Adds a fact, which may be there already."""
        if fact in self.held:
            return
        self.held[fact] = True
        for first in (fact[1], None):
            for second in (fact[2], None):
                self.lookup.setdefault((fact[0], first, second), []).append(fact)

    def fitting(self, atom, values):
        """The facts that match the atom under an assignment that keeps the values."""
        found = self.lookup.get((atom[0], values.get(atom[1]), values.get(atom[2])), [])
        if atom[1] == atom[2]:
            return [fact for fact in found if fact[1] == fact[2]]
        return list(found)

    def listed(self):
        """All facts in order."""
        return sorted(self.held)


def with_fact(values, atom, fact):
    """The values, and those that the variables of the atom have by the fact."""
    longer = dict(values)
    longer[atom[1]] = fact[1]
    longer[atom[2]] = fact[2]
    return longer


def can_match(facts, atoms, values):
    """Whether the facts match the atoms under an assignment that keeps the values."""
    if not atoms:
        return True
    for fact in facts.fitting(atoms[0], values):
        if can_match(facts, atoms[1:], with_fact(values, atoms[0], fact)):
            return True
    return False


def matches(sources, atoms):
    """Each match of the atoms, where each atom is matched by a fact of its own source.

    A match is a tuple: the tuple of the facts matched, and the assignment.
    """
    found = [((), {})]
    for source, atom in zip(sources, atoms):
        longer = []
        for matched, values in found:
            for fact in source.fitting(atom, values):
                longer.append((matched + (fact,), with_fact(values, atom, fact)))
        found = longer
    return found
