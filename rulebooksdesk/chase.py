"""The chase, and whether a rule follows from rules that satisfy the criterion."""

from rulebooksdesk.facts import Facts, can_match, matches
from rulebooksdesk.rules import variables_of


FIRST_BODY_VALUE = 50
FIRST_UNKNOWN_VALUE = 100


class Watch:
    """Watches the matches of one rule's body for the first at which the rule does not hold.

    Whether the rule holds at a match depends only on the values of the variables that its body
    and head share, and more facts never undo it. So only the first match for such values is
    kept, and values for which the rule holds are never looked at again.
    """

    def __init__(self, watched):
        self.watched = watched
        self.settled = {}
        self.waiting = {}

    def meet(self, fresh, facts):
        """Takes up the matches that the fresh facts, which the facts contain, bring about."""
        body = self.watched.body
        for place in range(len(body)):
            sources = [facts for atom in body]
            sources[place] = fresh
            for matched, values in matches(sources, body):
                self.take_up(matched, values)

    def take_up(self, matched, values):
        """Keeps a match if its values are not settled and none before it has them."""
        shared = tuple([values[variable] for variable in self.watched.shared])
        if shared not in self.settled:
            self.waiting[shared] = min(matched, self.waiting.get(shared, matched))

    def first_failing(self, facts):
        """The shared variables' values at the first match where the rule fails, or None."""
        ordered = sorted([(self.waiting[key], key) for key in self.waiting])
        for matched, shared in ordered:
            values = dict(zip(self.watched.shared, shared))
            if not can_match(facts, self.watched.head, values):
                return values
            self.settled[shared] = True
            self.waiting.pop(shared)
        return None


class Chase:
    """A set of facts that grows by steps until all rules hold in it."""

    def __init__(self, rules):
        self.facts = Facts()
        self.watches = [Watch(rule) for rule in rules]
        self.unknown = FIRST_UNKNOWN_VALUE

    def put_atoms(self, atoms, values):
        """Adds the atoms as facts, with the values of their variables."""
        fresh = Facts()
        for table, first, second in atoms:
            fact = (table, values[first], values[second])
            if fact not in self.facts.held:
                fresh.put(fact)
        for fact in fresh.listed():
            self.facts.put(fact)
        for watch in self.watches:
            watch.meet(fresh, self.facts)

    def take_step(self):
        """Takes a step if some rule does not hold, and tells whether it did."""
        for watch in self.watches:
            values = watch.first_failing(self.facts)
            if values is not None:
                for variable in watch.watched.existential:
                    values[variable] = self.unknown
                    self.unknown += 1
                self.put_atoms(watch.watched.head, values)
                return True
        return False


def body_values(rule):
    """The values that the variables of the body have in the facts that the chase starts with."""
    values = {}
    for variable in variables_of(rule.body):
        values[variable] = FIRST_BODY_VALUE + variable
    return values


def consequences(rule, rules):
    """The consequences of the rule by the rules, as Facts."""
    chase = Chase(rules)
    chase.put_atoms(rule.body, body_values(rule))
    running = True
    while running:
        running = chase.take_step()
    return chase.facts


def shown_by(rule, facts):
    """Whether the rule follows from the rules that gave these facts as its consequences."""
    return can_match(facts, rule.head, body_values(rule))


def follows_from(rule, rules):
    """Whether the rule follows from the rules."""
    return shown_by(rule, consequences(rule, rules))
