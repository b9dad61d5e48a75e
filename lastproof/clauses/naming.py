"""Part names for the sides of iff."""

from lastproof.formulas.formulas import free_variables, quantified
from lastproof.terms.symbols import part_name


def named(number, formula):
    """Return the list of the formula, as it becomes, and the additional formulas; and how many names were made."""
    naming = Naming(number)
    changed = naming.traversed(formula)
    return ([changed] + naming.added, naming.made)


class Naming:
    """The part names that were made, and their formulas."""

    def __init__(self, number):
        self.number = number
        self.made = 0
        self.added = []

    def traversed(self, formula):
        """Return the formula with names for the sides of each iff in it."""
        word = formula[0]
        if word in ("atom", "equal"):
            return formula
        if word == "not":
            return ("not", self.traversed(formula[1]))
        if word in ("all", "some"):
            return (word, formula[1], self.traversed(formula[2]))
        left = self.traversed(formula[1])
        right = self.traversed(formula[2])
        if word == "iff":
            left = self.side_named(left)
            right = self.side_named(right)
        return (word, left, right)

    def side_named(self, formula):
        """Return the side of an iff, or the atom that names it if it must be named."""
        if not must_be_named(formula):
            return formula
        bound = free_variables(formula)
        atom = ("atom", (part_name(self.number, self.made), tuple(bound)))
        self.made += 1
        self.added.append(quantified("all", bound, ("iff", atom, formula)))
        return atom


def must_be_named(formula):
    """Tell whether the formula is more than an atom or an equality with any negations."""
    inside = formula
    while inside[0] == "not":
        inside = inside[1]
    return inside[0] not in ("atom", "equal")
