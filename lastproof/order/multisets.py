"""The order of literals and clauses, by what is left in lists when common elements are removed."""

from lastproof.order.ordering import greater
from lastproof.terms.literals import same


def left_over(items, others, alike):
    """Return the items without those that occur in others, as often as they occur there."""
    unused = list(others)
    left = []
    for item in items:
        k = index_of(item, unused, alike)
        if k is None:
            left.append(item)
        else:
            del unused[k]
    return left


def index_of(item, others, alike):
    """Return the first index of an element that is like the item, or None."""
    for k, other in enumerate(others):
        if alike(item, other):
            return k
    return None


def is_more(weights, first, second, alike, exceeds):
    """Tell whether the list first is more than the list second."""
    more = left_over(first, second, alike)
    less = left_over(second, first, alike)
    return bool(more) and all(is_exceeded(weights, low, more, exceeds) for low in less)


def is_exceeded(weights, low, items, exceeds):
    """Tell whether one of the items is greater than low."""
    return any(exceeds(weights, high, low) for high in items)


def are_equal(first, second):
    """Tell whether two terms are equal."""
    return first == second


def sides_listed(literal):
    """Return the list of the literal: its sides, each twice if it is negative."""
    positive, left, right = literal
    return [left, right] if positive else [left, left, right, right]


def literal_greater(weights, first, second):
    """Tell whether the literal first is greater than the literal second."""
    return is_more(weights, sides_listed(first), sides_listed(second), are_equal, greater)


def clause_greater(weights, first, second):
    """Tell whether the clause first is greater than the clause second."""
    return is_more(weights, first, second, same, literal_greater)


def is_greatest(weights, clause, k):
    """Tell whether no literal of the clause is greater than the one with the index k."""
    return not is_exceeded(weights, clause[k], clause, literal_greater)


def is_greatest_alone(weights, clause, k):
    """Tell whether the literal with the index k is greatest and no other index has the same literal."""
    others = clause[:k] + clause[k + 1:]
    return is_greatest(weights, clause, k) and index_of(clause[k], others, same) is None
