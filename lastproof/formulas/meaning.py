"""What formulas and clauses mean in a world."""

from lastproof.formulas.formulas import basic_parts
from lastproof.terms.literals import clause_variables
from lastproof.terms.symbols import TRUTH
from lastproof.terms.terms import is_variable, subterms, use_of


def holds(formula, world):
    """Tell whether the formula, which has no free variables, holds in the world."""
    return holds_for(formula, world, {})


def clause_holds(clause, world):
    """Tell whether the clause holds in the world, for all individuals in place of its variables."""
    bound = clause_variables(clause)
    ways = 1
    for _ in bound:
        ways *= world.size
    for way in range(ways):
        individuals = chosen_individuals(bound, way, world.size)
        if not any(literal_holds(literal, world, individuals) for literal in clause):
            return False
    return True


def uses_of(formulas):
    """Return the list of the pairs (symbol, number of arguments) in the formulas by their first occurrence."""
    found = {}
    for formula in formulas:
        for part, _ in basic_parts(formula):
            for term in part[1:]:
                for here in subterms(term):
                    if not is_variable(here) and here != TRUTH:
                        found[use_of(here)] = True
    return list(found)


def holds_for(formula, world, individuals):
    """Tell whether the formula holds for these individuals in place of its free variables."""
    word = formula[0]
    if word == "atom":
        return value_of(formula[1], world, individuals) == 1
    if word == "equal":
        return value_of(formula[1], world, individuals) == value_of(formula[2], world, individuals)
    if word == "not":
        return not holds_for(formula[1], world, individuals)
    if word == "all" or word == "some":
        return quantifier_holds(formula, world, individuals)
    left = holds_for(formula[1], world, individuals)
    if word == "and":
        return left and holds_for(formula[2], world, individuals)
    if word == "or":
        return left or holds_for(formula[2], world, individuals)
    if word == "implies":
        return not left or holds_for(formula[2], world, individuals)
    return left == holds_for(formula[2], world, individuals)


def quantifier_holds(formula, world, individuals):
    """Tell whether a quantified formula holds for these individuals."""
    word, variable, inside = formula
    for individual in range(world.size):
        holds_here = holds_for(inside, world, {**individuals, variable: individual})
        if holds_here == (word == "some"):
            return holds_here
    return word == "all"


def value_of(term, world, individuals):
    """Return the value of the term: an individual, or 1 for an atom that holds and 0 for another one."""
    if is_variable(term):
        return individuals[term]
    if term == TRUTH:
        return 1
    table = world.tables.get(use_of(term))
    # The judge of worlds takes the value 0 where a table is missing.
    if table is None:
        return 0
    place = 0
    for argument in term[1]:
        place = place * world.size + value_of(argument, world, individuals)
    return table[place]


def literal_holds(literal, world, individuals):
    """Tell whether the literal holds for these individuals."""
    positive, left, right = literal
    # An atom is compared with TRUTH or with another atom as 1 or 0, so this holds for all kinds of literals.
    return positive == (value_of(left, world, individuals) == value_of(right, world, individuals))


def chosen_individuals(bound, way, size):
    """Return the dict from the variables to individuals that belongs to the number of a way to choose them."""
    found = {}
    left = way
    for variable in bound:
        found[variable] = left % size
        left //= size
    return found
