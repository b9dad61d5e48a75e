"""Literals: tuples (positive, left, right); clauses: tuples of literals."""

from lastproof.terms.substitutions import put_clause
from lastproof.terms.symbols import TRUTH
from lastproof.terms.terms import depth, is_atomic, is_individual, size, variables


def side(literal, k):
    """Return side 0, the left one, or side 1, the right one."""
    return literal[k + 1]


def with_side(literal, k, term):
    """Return the literal with the term as side k."""
    positive, left, right = literal
    if k == 0:
        return (positive, term, right)
    return (positive, left, term)


def same(first, second):
    """Tell whether the literals are the same, with their sides in either order."""
    if first[0] != second[0]:
        return False
    sides = first[1:]
    return sides == second[1:] or sides == (second[2], second[1])


def is_well_formed_literal(literal):
    """Tell whether both sides are individual, or the left one is an atomic atom and the right one TRUTH."""
    left, right = literal[1:]
    if right == TRUTH:
        return is_atomic(left)
    return is_individual(left) and is_individual(right)


def is_well_formed(clause):
    """Tell whether all literals of the clause are well formed."""
    return all(is_well_formed_literal(literal) for literal in clause)


def literal_size(literal):
    """Return the sum of the sizes of the sides."""
    return size(literal[1]) + size(literal[2])


def clause_size(clause):
    """Return the sum of the sizes of the literals."""
    return sum(literal_size(literal) for literal in clause)


def clause_depth(clause):
    """Return the greatest depth of a side, 0 for the empty clause."""
    return max([depth(term) for literal in clause for term in literal[1:]], default=0)


def clause_variables(clause):
    """Return the list of the variables of the clause by their first occurrence, each once."""
    found = {}
    for literal in clause:
        for variable in variables(literal[1]) + variables(literal[2]):
            found[variable] = True
    return list(found)


def renumbered(clause):
    """Return the renumbered clause, and the dict from its variables to their new numbers."""
    numbering = {variable: k for k, variable in enumerate(clause_variables(clause))}
    return (put_clause(clause, numbering), numbering)


def with_literal(clause, k, literal):
    """Return the clause with the literal in place of the one with the index k."""
    return clause[:k] + (literal,) + clause[k + 1:]


def without_literal(clause, k):
    """Return the clause without the literal with the index k."""
    return clause[:k] + clause[k + 1:]
