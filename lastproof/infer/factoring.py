"""Conclusions by factoring."""

from lastproof.infer.acting import may_act, may_lead
from lastproof.infer.conclusions import Conclusion, in_new_numbers, variable_instances
from lastproof.terms.literals import clause_variables, side, with_literal
from lastproof.terms.substitutions import put_clause
from lastproof.terms.terms import is_atom
from lastproof.unify.unifying import unify


def factorings(weights, c, selected):
    """Return the list of the conclusions by factoring from c."""
    found = []
    if selected is None:
        positive = [k for k, literal in enumerate(c) if literal[0]]
        for one in sides_of(positive):
            # A side that may not take part in the clause itself may not do so in an instance either.
            if first_allowed(weights, c, one, {}):
                others = [other for other in sides_of(positive) if other[0] != one[0]]
                found.extend(factorings_with(weights, c, one, others))
    return found


def sides_of(indexes):
    """Return the list of the pairs (index, side) for literals with these indexes."""
    return [(k, s) for k in indexes for s in (0, 1)]


def first_allowed(weights, c, one, substitution):
    """Tell whether the literal is greatest and its side may lead, for a pair (index, side)."""
    k, s = one
    return may_lead(weights, c[k], s, substitution) and may_act(weights, c, None, k, substitution)


def factorings_with(weights, c, one, others):
    """Return the list of the conclusions with this first side, and with these second sides."""
    found = []
    term = side(c[one[0]], one[1])
    for other in others:
        other_term = side(c[other[0]], other[1])
        substitution = unify([(term, other_term)]) if is_atom(term) == is_atom(other_term) else None
        if substitution is not None and first_allowed(weights, c, one, substitution):
            found.append(factored(c, one, other, substitution))
    return found


def factored(c, one, other, substitution):
    """Return the conclusion from the two sides that the substitution unifies."""
    first, first_side = one
    second, second_side = other
    literal = (False, side(c[first], 1 - first_side), side(c[second], 1 - second_side))
    became = variable_instances(clause_variables(c), substitution, 0)
    clause, became, _ = in_new_numbers(put_clause(with_literal(c, first, literal), substitution), became, {})
    return Conclusion("factoring", clause, first, first_side, None, second, second_side, became, {})
