"""Substitutions: dicts that map variables to terms."""

from lastproof.terms.terms import is_variable


def put(term, substitution):
    """Return the instance of the term, all keys replaced at the same time."""
    if is_variable(term):
        return substitution.get(term, term)
    return (term[0], tuple([put(argument, substitution) for argument in term[1]]))


def put_literal(literal, substitution):
    """Return the instance of the literal."""
    positive, left, right = literal
    return (positive, put(left, substitution), put(right, substitution))


def put_clause(clause, substitution):
    """Return the instance of the clause."""
    return tuple([put_literal(literal, substitution) for literal in clause])


def shifted(term, amount):
    """Return the term with the amount added to every variable."""
    if is_variable(term):
        return term + amount
    return (term[0], tuple([shifted(argument, amount) for argument in term[1]]))


def shifted_clause(clause, amount):
    """Return the clause with the amount added to every variable."""
    return tuple([
        (positive, shifted(left, amount), shifted(right, amount)) for positive, left, right in clause
    ])
