"""Rewriting a clause by an equation."""

from lastproof.order.multisets import clause_greater
from lastproof.order.ordering import greater
from lastproof.terms.literals import with_literal, with_side
from lastproof.terms.places import places, put_at
from lastproof.terms.substitutions import put
from lastproof.terms.terms import is_atom, is_variable, use_of
from lastproof.unify.matching import match


class Rewriting:
    """A clause that is rewritten once, and how."""

    def __init__(self, clause, literal, side, place, equation_side, substitution):
        self.clause = clause
        self.literal = literal
        self.side = side
        self.place = place
        self.equation_side = equation_side
        self.substitution = dict(substitution)


def rewrite(weights, equation, clause):
    """Return the Rewriting of the clause by the literal equation, or None if there is none."""
    if not equation[0]:
        return None
    return Rule(weights, equation).rewriting(Spots(clause))


class Spots:
    """A clause and the places in it that may be rewritten: (literal, side, place, term), in order."""

    def __init__(self, clause):
        self.clause = clause
        self.all_spots = []
        self.by_trait = {}
        for k, literal in enumerate(clause):
            for s in (0, 1):
                for place, term in places(literal[1 + s]):
                    if not is_variable(term):
                        self.add_spot((k, s, place, term))

    def add_spot(self, spot):
        """Add a place, and list it for the symbol of its term, alone and with the symbol of each argument."""
        self.all_spots.append(spot)
        use = use_of(spot[3])
        self.by_trait.setdefault(use, []).append(spot)
        for k, argument in enumerate(spot[3][1]):
            if not is_variable(argument):
                self.by_trait.setdefault((use, k, use_of(argument)), []).append(spot)


class Rule:
    """An equation that rewrites. A side that is not greater in the equation is not greater in any instance."""

    def __init__(self, weights, equation):
        self.weights = weights
        self.sides = []
        for s in (0, 1):
            pattern, other = equation[1 + s], equation[2 - s]
            if pattern != other and not greater(weights, other, pattern):
                self.sides.append((s, pattern, other))
        self.traits = [trait_of(pattern) for _, pattern, _ in self.sides]

    def candidates(self, spots):
        """Return the list of the places that the sides may match, in order."""
        if len(self.traits) == 1 and self.traits[0] is not None:
            return spots.by_trait.get(self.traits[0], [])
        if any([trait is None or trait in spots.by_trait for trait in self.traits]):
            return spots.all_spots
        return []

    def rewriting(self, spots):
        """Return the Rewriting at the first place where the equation rewrites the clause, or None."""
        for spot in self.candidates(spots):
            for s, pattern, other in self.sides:
                substitution = match(pattern, spot[3], {})
                if substitution is not None and is_atom(pattern) == is_atom(spot[3]):
                    new = put(other, substitution)
                    if self.is_smaller(spots.clause, spot[3], new):
                        return rewritten_at(spots.clause, spot, s, new, substitution)
        return None

    def is_smaller(self, clause, term, new):
        """Tell whether the new term may come in the place of the term in the clause."""
        return greater(self.weights, term, new) and clause_greater(self.weights, clause, ((True, term, new),))


def rewritten_at(clause, spot, equation_side, new, substitution):
    """Return the Rewriting that puts the new term at a place, by the result of matching."""
    k, s, place, _ = spot
    literal = with_side(clause[k], s, put_at(clause[k][1 + s], place, new))
    return Rewriting(with_literal(clause, k, literal), k, s, place, equation_side, substitution)


def trait_of(pattern):
    """Return what each term has that the pattern matches, as places are listed by it, or None for a variable."""
    if is_variable(pattern):
        return None
    use = use_of(pattern)
    for k, argument in enumerate(pattern[1]):
        if not is_variable(argument):
            return (use, k, use_of(argument))
    return use
