"""Superposition of a clause into a clause."""

from lastproof.infer.acting import may_act, may_give, may_lead
from lastproof.infer.conclusions import Conclusion, in_new_numbers
from lastproof.terms.literals import clause_variables, side, with_literal, with_side, without_literal
from lastproof.terms.places import places, put_at
from lastproof.terms.substitutions import put, put_clause, shifted_clause
from lastproof.terms.terms import is_atom, is_variable
from lastproof.unify.unifying import unify


def superpositions(weights, c, selected_c, d, selected_d):
    """Return the list of the conclusions by superposition of d into c."""
    pairing = Pairing(weights, c, selected_c, d, selected_d)
    sources = pairing.sources()
    targets = pairing.targets() if sources else []
    found = []
    for target in targets:
        for source in sources:
            conclusion = pairing.conclusion(target, source)
            if conclusion is not None:
                found.append(conclusion)
    return found


class Pairing:
    """The clauses c and d, where d has variables that do not occur in c."""

    def __init__(self, weights, c, selected_c, d, selected_d):
        self.weights = weights
        self.c = c
        self.selected_c = selected_c
        self.shift = max(clause_variables(c), default=-1) + 1
        self.given_d = d
        self.d = shifted_clause(d, self.shift)
        self.selected_d = selected_d

    # What is not greatest in a clause, or is less than the other side, stays so in every instance. So literals
    # and sides that may not take part in the clauses themselves are left out before anything is unified.

    def targets(self):
        """Return the list of (literal, side, place, term) for the places in c, in their order."""
        found = []
        for k, literal in enumerate(self.c):
            for s in (0, 1):
                if self.target_allowed(k, s, {}):
                    for place, term in places(side(literal, s)):
                        if not is_variable(term):
                            found.append((k, s, place, term))
        return found

    def sources(self):
        """Return the list of (literal, side) for the sides in d, in their order."""
        indexes = range(len(self.d))
        return [(k, s) for k in indexes for s in (0, 1) if self.source_allowed(k, s, {})]

    def target_allowed(self, k, s, substitution):
        """Tell whether the literal of c may act and its side s may lead."""
        if not may_lead(self.weights, self.c[k], s, substitution):
            return False
        return may_act(self.weights, self.c, self.selected_c, k, substitution)

    def source_allowed(self, k, s, substitution):
        """Tell whether the literal of d may give and its side s may lead."""
        if not self.d[k][0] or not may_lead(self.weights, self.d[k], s, substitution):
            return False
        return may_give(self.weights, self.d, self.selected_d, k, substitution)

    def conclusion(self, target, source):
        """Return the conclusion at a place in c by a side in d, or None."""
        k, s, _, term = target
        by, by_side = source
        leading = side(self.d[by], by_side)
        if is_atom(term) != is_atom(leading):
            return None
        substitution = unify([(term, leading)])
        if substitution is None:
            return None
        if not self.target_allowed(k, s, substitution) or not self.source_allowed(by, by_side, substitution):
            return None
        return self.concluded(target, source, substitution)

    def concluded(self, target, source, substitution):
        """Return the conclusion for the substitution."""
        k, s, place, _ = target
        by, by_side = source
        changed = put_at(side(self.c[k], s), place, side(self.d[by], 1 - by_side))
        clause = with_literal(self.c, k, with_side(self.c[k], s, changed)) + without_literal(self.d, by)
        first = {variable: put(variable, substitution) for variable in clause_variables(self.c)}
        second = {variable: put(variable + self.shift, substitution) for variable in clause_variables(self.given_d)}
        clause, first, second = in_new_numbers(put_clause(clause, substitution), first, second)
        return Conclusion("superposition", clause, k, s, place, by, by_side, first, second)
