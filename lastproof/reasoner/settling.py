"""Settling clauses by chosen clauses, and comparing them."""

from lastproof.simplify.cleaning import cleaned
from lastproof.simplify.parts import part_by
from lastproof.simplify.profiles import Profile
from lastproof.simplify.rewriting import Rule, Spots
from lastproof.terms.literals import clause_size, clause_variables, renumbered


def settle(weights, chosen, clause):
    """Return the settled clause and the list of the changes, where chosen is a list of Kept."""
    return settled_by(rules_of(weights, chosen), clause)


def rules_of(weights, chosen):
    """Return the list of the pairs (number, rule) of the clauses that consist of one positive literal."""
    return [(kept.number, Rule(weights, kept.clause[0])) for kept in chosen if is_equation(kept.clause)]


def is_equation(clause):
    """Tell whether the clause consists of one positive literal."""
    return len(clause) == 1 and clause[0][0]


def settled_by(rules, clause):
    """Return the clause settled by pairs (number, rule), and the list of the changes."""
    changes = []
    settled = clause
    while True:
        clean = cleaned(settled)
        if len(clean) < len(settled):
            changes.append(("cleaned",))
        change = first_rewritten(rules, clean)
        if change is None:
            break
        changes.append(change)
        settled = change[2].clause
    numbered, numbering = renumbered(clean)
    if any([numbering[variable] != variable for variable in numbering]):
        changes.append(("renumbered", numbering))
    return (numbered, changes)


def first_rewritten(rules, clause):
    """Return the change by the first rule that rewrites the clause, or None."""
    spots = Spots(clause) if rules else None
    for number, rule in rules:
        rewriting = rule.rewriting(spots)
        if rewriting is not None:
            return ("rewritten", number, rewriting)
    return None


def first_part(kept, clause):
    """Return (number, substitution, indexes) of the first Kept of the list that is a part of the clause, or None."""
    profile = Profile(clause)
    for one in kept:
        found = part_by(one.profile, profile)
        if found is not None:
            return (one.number,) + found
    return None


def is_lighter(clause, other):
    """Tell whether the clause has fewer literals, or else a smaller size, or else more different variables."""
    if len(clause) != len(other):
        return len(clause) < len(other)
    size, other_size = clause_size(clause), clause_size(other)
    if size != other_size:
        return size < other_size
    return len(clause_variables(clause)) > len(clause_variables(other))
