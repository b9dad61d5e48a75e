"""The weights of symbols, terms, literals and clauses."""

from lastproof.terms.terms import is_variable, subterms


def symbol_weight(weights, symbol):
    """Return the weight of the symbol, 1 if it is no key of the weights."""
    return weights.get(symbol, 1)


def term_weight(weights, term):
    """Return the sum of the weights of all variables and symbols in the term, with repetitions."""
    total = 0
    for here in subterms(term):
        total += 1 if is_variable(here) else symbol_weight(weights, here[0])
    return total


def literal_weight(weights, literal):
    """Return the sum of the weights of the sides, TRUTH included."""
    return term_weight(weights, literal[1]) + term_weight(weights, literal[2])


def clause_weight(weights, clause):
    """Return the sum of the weights of the literals."""
    return sum(literal_weight(weights, literal) for literal in clause)
