"""Cleaning clauses, and clauses that always hold."""

from lastproof.terms.literals import same


def cleaned(clause):
    """Return the clause without literals that never hold and literals that come again later."""
    return tuple([literal for k, literal in enumerate(clause) if is_needed(literal, clause[k + 1:])])


def is_needed(literal, later):
    """Tell whether the literal may hold, and no later literal is the same."""
    positive, left, right = literal
    if not positive and left == right:
        return False
    return not any(same(literal, other) for other in later)


def always_holds(clause):
    """Return the first pair of indexes that shows that the clause always holds, or None."""
    for i, first in enumerate(clause):
        for j, second in enumerate(clause):
            if i == j and first[0] and first[1] == first[2]:
                return (i, j)
            if same(first, negated(second)):
                return (i, j)
    return None


def negated(literal):
    """Return the literal with the opposite sign."""
    positive, left, right = literal
    return (not positive, left, right)
