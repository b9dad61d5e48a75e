"""Formulas and worlds that several tests use."""

import itertools

from lastproof.formulas.meaning import uses_of
from lastproof.formulas.parsing import parse_formula
from lastproof.formulas.tokens import tokens
from lastproof.formulas.worlds import World

ZERO_ONE_KINDS = (0, 1, 4, 5)


def parsed(text, names=()):
    """The formula of a text, with the symbols of a table that begins with these names."""
    return parse_formula(tokens(text, 1), (1, len(text) + 1), list(names))[0]


def random_formula(source, depth, bound=(), names=3, terms=True):
    """A formula whose free variables are those of bound, with predicates and functions below an index."""
    kind = source.randrange(9) if depth else source.randrange(2)
    if kind == 0 or kind == 1 and not terms:
        many = source.randrange(3)
        return ("atom", ((1, source.randrange(names), 0), tuple(random_individual(source, bound, terms) for _ in range(many))))
    if kind == 1:
        return ("equal", random_individual(source, bound, terms), random_individual(source, bound, terms))
    if kind == 2:
        return ("not", random_formula(source, depth - 1, bound, names, terms))
    if kind in (3, 4):
        variable = source.randrange(3)
        inside = random_formula(source, depth - 1, bound + (variable,), names, terms)
        return (("all", "some")[kind - 3], variable, inside)
    word = ("and", "or", "implies", "iff")[kind - 5]
    return (word, random_formula(source, depth - 1, bound, names, terms),
            random_formula(source, depth - 1, bound, names, terms))


def random_individual(source, bound, terms):
    if bound and (not terms or source.random() < 0.7):
        return source.choice(bound)
    if not terms or source.random() < 0.7:
        return ((2, 9, 0), ())
    return ((2, 8, 0), (random_individual(source, bound, terms),))


def tables_for(uses, size):
    """All dicts of tables for these uses in worlds of this size."""
    choices = []
    for symbol, many in uses:
        values = range(2) if symbol[0] in ZERO_ONE_KINDS else range(size)
        choices.append(list(itertools.product(values, repeat=size ** many)))
    for row in itertools.product(*choices):
        yield dict(zip(uses, row))


def ways(uses, size):
    """How many dicts of tables there are."""
    total = 1
    for symbol, many in uses:
        total *= (2 if symbol[0] in ZERO_ONE_KINDS else size) ** (size ** many)
    return total


def random_world(source, uses, size):
    tables = {}
    for symbol, many in uses:
        values = 2 if symbol[0] in ZERO_ONE_KINDS else size
        tables[(symbol, many)] = tuple(source.randrange(values) for _ in range(size ** many))
    return World(size, tables)


def uses_of_clauses(clauses):
    """The uses in clauses, found as those of equalities of their sides."""
    return uses_of([("equal", left, right) for clause in clauses for _, left, right in clause])
