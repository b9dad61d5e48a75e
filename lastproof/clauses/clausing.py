"""The clauses of a formula."""

from lastproof.clauses.inward import inward
from lastproof.clauses.naming import named
from lastproof.clauses.quantifiers import Unbinding
from lastproof.terms.literals import clause_variables, renumbered, same
from lastproof.terms.symbols import TRUTH, part_name


def clauses_of(number, formula):
    """Return the list of the clauses of the formula with this number."""
    formulas, made = named(number, formula)
    unbinding = Unbinding(number)
    splitting = Splitting(number, made)
    found = []
    for one in formulas:
        clauses, added = splitting.split_up(unbinding.unbound(inward(one, True)))
        found.extend([renumbered(without_repeats(clause))[0] for clause in clauses + added])
    return found


class Splitting:
    """The part names that were made."""

    def __init__(self, number, made):
        self.number = number
        self.made = made

    def split_up(self, formula):
        """Return the list of the clauses and the list of the additional clauses of literals, and, or."""
        if formula[0] == "literal":
            return ([(formula[1],)], [])
        left, left_added = self.split_up(formula[1])
        right, right_added = self.split_up(formula[2])
        added = left_added + right_added
        if formula[0] == "and":
            return (left + right, added)
        if len(left) == 1 or len(right) == 1:
            return ([first + second for first in left for second in right], added)
        atom = self.named_part(formula[2])
        clauses = [clause + ((True, atom, TRUTH),) for clause in left]
        return (clauses, added + [((False, atom, TRUTH),) + clause for clause in right])

    def named_part(self, formula):
        """Return the atom that names a part."""
        symbol = part_name(self.number, self.made)
        self.made += 1
        return (symbol, tuple(clause_variables(literals_in(formula))))


def literals_in(formula):
    """Return the list of the literals of a formula of literals, and, or, from left to right."""
    found = []
    todo = [formula]
    while todo:
        here = todo.pop()
        if here[0] == "literal":
            found.append(here[1])
        else:
            todo.extend([here[2], here[1]])
    return found


def without_repeats(clause):
    """Return the clause in which of literals that are the same only the first one stays."""
    kept = []
    for literal in clause:
        if not any(same(literal, other) for other in kept):
            kept.append(literal)
    return tuple(kept)
