"""Removing quantifiers by Skolem functions."""

from lastproof.terms.substitutions import put
from lastproof.terms.symbols import TRUTH, skolem


class Unbinding:
    """The Skolem functions and, for one formula, the variables that were made."""

    def __init__(self, number):
        self.number = number
        self.skolems_made = 0
        self.variables_made = 0

    def unbound(self, formula):
        """Return the formula without quantifiers, with ("literal", literal) in place of atoms and equalities."""
        self.variables_made = 0
        return self.traversed(formula, (), {})

    def traversed(self, formula, around, values):
        """Return a formula inside of quantifiers: the variables around it, and what the bound ones became."""
        word = formula[0]
        if word == "and" or word == "or":
            left = self.traversed(formula[1], around, values)
            return (word, left, self.traversed(formula[2], around, values))
        if word == "all":
            variable = self.next_variable()
            return self.traversed(formula[2], around + (variable,), {**values, formula[1]: variable})
        if word == "some":
            term = (self.next_skolem(), around)
            return self.traversed(formula[2], around, {**values, formula[1]: term})
        if word == "not":
            return ("literal", literal_of(False, formula[1], values))
        return ("literal", literal_of(True, formula, values))

    def next_variable(self):
        """Return a new variable."""
        self.variables_made += 1
        return self.variables_made - 1

    def next_skolem(self):
        """Return a new Skolem function."""
        self.skolems_made += 1
        return skolem(self.number, self.skolems_made - 1)


def literal_of(positive, formula, values):
    """Return the literal of an atom or an equality, with the values of its variables."""
    if formula[0] == "atom":
        return (positive, put(formula[1], values), TRUTH)
    return (positive, put(formula[1], values), put(formula[2], values))
