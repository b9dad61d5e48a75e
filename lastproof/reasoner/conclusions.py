"""Chosen clauses with what is worked out of them once, and the conclusions that are taken from them."""

from lastproof.infer.factoring import factorings
from lastproof.infer.resolving import resolutions
from lastproof.infer.superposing import Ready, superposed
from lastproof.reasoner.settling import rules_of
from lastproof.simplify.rewriting import Spots


class Active:
    """A chosen clause: its rule if it is an equation, its places, and what may take part in superpositions."""

    def __init__(self, weights, kept):
        self.weights = weights
        self.kept = kept
        self.rules = rules_of(weights, [kept])
        self.spots = Spots(kept.clause)
        self.ready = Ready(weights, kept.clause, kept.selected)


# Conclusions are listed as pairs of a clause and what made it.


def alone(active):
    """Return the conclusions from one clause: its resolutions and then its factorings."""
    kept = active.kept
    found = []
    for conclusion in resolutions(active.weights, kept.clause, kept.selected):
        found.append((conclusion.clause, ("resolved", kept.number, conclusion)))
    for conclusion in factorings(active.weights, kept.clause, kept.selected):
        found.append((conclusion.clause, ("factored", kept.number, conclusion)))
    return found


def into(active, other):
    """Return the superpositions of the other clause into the first one."""
    numbers = (active.kept.number, other.kept.number)
    found = superposed(active.ready, other.ready)
    return [(conclusion.clause, ("superposed",) + numbers + (conclusion,)) for conclusion in found]


def between(active, others):
    """Return the superpositions of each of the others into the clause and, unless it is this one, the other way."""
    found = []
    for other in others:
        found.extend(into(active, other))
        if other.kept.number != active.kept.number:
            found.extend(into(other, active))
    return found
