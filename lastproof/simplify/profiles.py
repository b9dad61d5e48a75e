"""What is looked up often about a clause, so that most pairs of clauses need no closer look."""

from lastproof.terms.literals import clause_size, clause_variables
from lastproof.terms.terms import is_atom, use_of


class Profile:
    """A clause with what its literals need to be the same as those of another clause, and what they offer."""

    def __init__(self, clause):
        self.clause = clause
        self.size = clause_size(clause)
        self.needed = [trait(literal, use_of(literal[1]), use_of(literal[2])) for literal in clause]
        # For each trait, the list of (index, left, right): the literals that have it with their sides in this order.
        self.ways = {}
        for k, literal in enumerate(clause):
            self.add_ways(k, literal)
        self.binders = binders_of(clause)

    def add_ways(self, k, literal):
        """Add the literal with its sides as they are, and with its sides exchanged."""
        orders = [literal[1:]]
        if literal[1] != literal[2]:
            orders.append((literal[2], literal[1]))
        for left, right in orders:
            for one in traits_offered(literal, left, right):
                self.ways.setdefault(one, []).append((k, left, right))

    def may_be_part_of(self, other):
        """Tell whether nothing that this clause needs is missing in the other one."""
        # An instance is never smaller than the clause.
        if len(self.clause) > len(other.clause) or self.size > other.size:
            return False
        for one in self.needed:
            if one not in other.ways:
                return False
        return True


def trait(literal, use, other_use):
    """Return the sign of a literal, whether it has an atom, and the symbols of its sides, None for a variable."""
    return (literal[0], is_atom(literal[1]) or is_atom(literal[2]), use, other_use)


def traits_offered(literal, left, right):
    """Return the list of the traits of which a literal with these sides may be an instance."""
    uses = {use_of(left): True, None: True}
    other_uses = {use_of(right): True, None: True}
    return [trait(literal, use, other_use) for use in uses for other_use in other_uses]


def binders_of(clause):
    """Return, for each literal, the list of the indexes of the earlier literals in which its variables occur first."""
    first = {}
    found = []
    for k, literal in enumerate(clause):
        binders = {}
        for variable in clause_variables((literal,)):
            binders[first.setdefault(variable, k)] = True
        found.append([binder for binder in binders if binder < k])
    return found
