"""Which literals of a clause may act or give, and which sides may lead."""

from lastproof.order.multisets import is_greatest, is_greatest_alone
from lastproof.order.ordering import compare
from lastproof.terms.literals import side
from lastproof.terms.substitutions import put, put_clause


def may_act(weights, clause, selected, k, substitution):
    """Tell whether the literal with the index k may act."""
    if selected is not None:
        return selected == k
    return is_greatest(weights, put_clause(clause, substitution), k)


def may_give(weights, clause, selected, k, substitution):
    """Tell whether the literal with the index k may give."""
    if selected is not None or not clause[k][0]:
        return False
    return is_greatest_alone(weights, put_clause(clause, substitution), k)


def may_lead(weights, literal, side_index, substitution):
    """Tell whether the side with this number may lead."""
    leading = put(side(literal, side_index), substitution)
    other = put(side(literal, 1 - side_index), substitution)
    return compare(weights, leading, other) not in ("same", "less")
