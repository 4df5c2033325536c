"""Which rules follow from other rules.

The rules that others are to follow from satisfy the criterion. If all rules of a book do, some of
them do as well, since fewer rules have fewer edges.
"""

from rulebooksdesk.chase import follows_from


def others(rules, index):
    """All rules but the one with the index."""
    return rules[:index] + rules[index + 1:]


def is_spare(rules, index):
    """Whether the rule with the index follows from all others."""
    return follows_from(rules[index], others(rules, index))


def spare_ones(rules):
    """The indexes of the rules that follow from all others, in ascending order."""
    return [index for index in range(len(rules)) if is_spare(rules, index)]


def strays(asked, rules):
    """The indexes of the asked rules that do not follow from the rules, in ascending order."""
    return [index for index in range(len(asked)) if not follows_from(asked[index], rules)]


def thinned(rules):
    """The rules that are left when each, from the last to the first, goes if it is spare."""
    left = rules
    for index in range(len(rules) - 1, -1, -1):
        # Only rules behind this index can have gone by now, so it is still the same rule's.
        if is_spare(left, index):
            left = others(left, index)
    return left
