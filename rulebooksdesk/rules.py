"""Atoms and rules. An atom is a tuple: the table and the two variables."""

from rulebooksdesk.refusals import NotARule


LAST_TABLE = 3
LAST_VARIABLE = 4


class Rule:
    """A rule: its atoms, and its variables by their first occurrence."""

    def __init__(self, body, head):
        self.body = body
        self.head = head
        bound = variables_of(body)
        self.shared = [variable for variable in bound if variable in variables_of(head)]
        self.existential = [variable for variable in variables_of(head) if variable not in bound]


def variables_of(atoms):
    """The variables of the atoms, each once, by their first occurrence."""
    found = []
    for table, first, second in atoms:
        for variable in (first, second):
            if variable not in found:
                found.append(variable)
    return found


def read_atoms(numbers):
    """The 1 or 2 atoms that the numbers form."""
    if len(numbers) not in (3, 6):
        raise NotARule()
    atoms = []
    for at in range(0, len(numbers), 3):
        atom = (numbers[at], numbers[at + 1], numbers[at + 2])
        if atom[0] > LAST_TABLE or max(atom[1], atom[2]) > LAST_VARIABLE:
            raise NotARule()
        atoms.append(atom)
    return atoms


def read_rule(body, head):
    """The rule that the two lists of numbers form."""
    return Rule(read_atoms(body), read_atoms(head))
