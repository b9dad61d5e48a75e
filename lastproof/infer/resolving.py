"""Conclusions by resolution."""

from lastproof.infer.acting import may_act
from lastproof.infer.conclusions import Conclusion, in_new_numbers, variable_instances
from lastproof.terms.literals import clause_variables, without_literal
from lastproof.terms.substitutions import put_clause
from lastproof.unify.unifying import unify


def resolutions(weights, c, selected):
    """Return the list of the conclusions by resolution from c."""
    found = []
    for k, literal in enumerate(c):
        substitution = None if literal[0] else resolver(weights, c, selected, k)
        if substitution is not None:
            first = variable_instances(clause_variables(c), substitution, 0)
            clause, first, _ = in_new_numbers(put_clause(without_literal(c, k), substitution), first, {})
            found.append(Conclusion("resolution", clause, k, None, None, None, None, first, {}))
    return found


def resolver(weights, c, selected, k):
    """Return the substitution with which the sides of a negative literal are equal and it may act, or None."""
    # A literal that may not act in the clause itself may not act in an instance either.
    if not may_act(weights, c, selected, k, {}):
        return None
    substitution = unify([c[k][1:]])
    if substitution is None or not may_act(weights, c, selected, k, substitution):
        return None
    return substitution
