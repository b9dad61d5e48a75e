"""Superposition of a clause into a clause."""

from lastproof.infer.acting import may_act, may_give, may_lead
from lastproof.infer.conclusions import Conclusion, in_new_numbers, variable_instances
from lastproof.terms.literals import clause_variables, side, with_literal, with_side, without_literal
from lastproof.terms.places import places, put_at
from lastproof.terms.substitutions import put_clause, shifted_clause
from lastproof.terms.terms import is_atom, is_variable, use_of
from lastproof.unify.unifying import unify


def superpositions(weights, c, selected_c, d, selected_d):
    """Return the list of the conclusions by superposition of d into c."""
    return superposed(Ready(weights, c, selected_c), Ready(weights, d, selected_d))


def superposed(c, d):
    """Return the list of the conclusions by superposition of the ready clause d into the ready clause c."""
    if not d.may_fit_into(c):
        return []
    pairing = Pairing(c, d)
    found = []
    for target in c.targets:
        use = use_of(target[3])
        for source in d.sources:
            conclusion = pairing.conclusion(target, source) if source[2] in (use, None) else None
            if conclusion is not None:
                found.append(conclusion)
    return found


class Ready:
    """A clause with the places and the sides that may take part in superpositions with any clause."""

    # What is not greatest in a clause, or is less than the other side, stays so in every instance. So literals
    # and sides that may not take part in the clause itself are left out before anything is unified.

    def __init__(self, weights, clause, selected):
        self.weights = weights
        self.clause = clause
        self.selected = selected
        self.variables_listed = clause_variables(clause)
        self.targets = self.targets_listed()
        self.target_uses = {use_of(term): True for _, _, _, term in self.targets}
        self.sources = self.sources_listed()

    def targets_listed(self):
        """Return the list of (literal, side, place, term) for the places that may be changed, in their order."""
        found = []
        for k, literal in enumerate(self.clause):
            for s in (0, 1):
                if self.target_allowed(k, s, {}):
                    for place, term in places(side(literal, s)):
                        if not is_variable(term):
                            found.append((k, s, place, term))
        return found

    def sources_listed(self):
        """Return the list of (literal, side, use) for the sides that may be unified with a term, in their order."""
        found = []
        for k, literal in enumerate(self.clause):
            for s in (0, 1):
                if self.source_allowed(k, s, self.clause, {}):
                    found.append((k, s, use_of(side(literal, s))))
        return found

    def target_allowed(self, k, s, substitution):
        """Tell whether the literal may act and its side s may lead."""
        if not may_lead(self.weights, self.clause[k], s, substitution):
            return False
        return may_act(self.weights, self.clause, self.selected, k, substitution)

    def source_allowed(self, k, s, clause, substitution):
        """Tell whether the literal may give and its side s may lead, in this clause with the variables replaced."""
        if not clause[k][0] or not may_lead(self.weights, clause[k], s, substitution):
            return False
        return may_give(self.weights, clause, self.selected, k, substitution)

    def may_fit_into(self, other):
        """Tell whether a side of this clause may be unified with a term of the other one, by their symbols."""
        for _, _, use in self.sources:
            if use is None or use in other.target_uses:
                return bool(other.targets)
        return False


class Pairing:
    """The ready clauses c and d, where d gets variables that do not occur in c."""

    def __init__(self, c, d):
        self.c = c
        self.d = d
        self.shift = max(c.variables_listed, default=-1) + 1
        self.d_clause = shifted_clause(d.clause, self.shift)

    def conclusion(self, target, source):
        """Return the conclusion at a place in c by a side in d, or None."""
        k, s, _, term = target
        by, by_side, _ = source
        leading = side(self.d_clause[by], by_side)
        if is_atom(term) != is_atom(leading):
            return None
        substitution = unify([(term, leading)])
        if substitution is None or not self.c.target_allowed(k, s, substitution):
            return None
        if not self.d.source_allowed(by, by_side, self.d_clause, substitution):
            return None
        return self.concluded(target, source, substitution)

    def concluded(self, target, source, substitution):
        """Return the conclusion for the substitution."""
        k, s, place, _ = target
        by, by_side, _ = source
        c = self.c.clause
        changed = put_at(side(c[k], s), place, side(self.d_clause[by], 1 - by_side))
        clause = with_literal(c, k, with_side(c[k], s, changed)) + without_literal(self.d_clause, by)
        first = variable_instances(self.c.variables_listed, substitution, 0)
        second = variable_instances(self.d.variables_listed, substitution, self.shift)
        clause, first, second = in_new_numbers(put_clause(clause, substitution), first, second)
        return Conclusion("superposition", clause, k, s, place, by, by_side, first, second)
