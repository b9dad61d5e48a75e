"""Conclusions and what is recorded of them."""

from lastproof.terms.literals import renumbered
from lastproof.terms.substitutions import put
from lastproof.terms.terms import variables


class Conclusion:
    """A clause that follows from one or two clauses, and how it was found."""

    def __init__(self, kind, clause, literal, side, place, other_literal, other_side, first, second):
        self.kind = kind
        self.clause = clause
        self.literal = literal
        self.side = side
        self.place = place
        self.other_literal = other_literal
        self.other_side = other_side
        self.first = dict(first)
        self.second = dict(second)


def variable_instances(variables_listed, substitution, amount):
    """Return the dict from the variables to the instances of the variables that are greater by the amount."""
    return {variable: put(variable + amount, substitution) for variable in variables_listed}


def in_new_numbers(clause, first, second):
    """Return the renumbered clause and the two dicts of what variables became, in the new numbers."""
    changed, numbering = renumbered(clause)
    for became in (first, second):
        for term in became.values():
            for variable in variables(term):
                numbering.setdefault(variable, len(numbering))
    changed_first = {variable: put(first[variable], numbering) for variable in first}
    return (changed, changed_first, {variable: put(second[variable], numbering) for variable in second})
