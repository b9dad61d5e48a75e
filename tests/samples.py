"""Symbols, terms and generators of terms that several tests use."""

import random

TRUTH = ((0, 0, 0), ())
P = (1, 0, 0)
Q = (1, 1, 0)
F = (2, 0, 0)
G = (2, 1, 0)
A = ((2, 2, 0), ())
B = ((2, 3, 0), ())
H = ((2, 4, 0), ())
SKOLEM = (3, 3, 0)
PART = (4, 3, 1)
ANSWER = (5, 3, 0)
ALL_SYMBOLS = [(0, 0, 0), P, Q, F, G, A[0], SKOLEM, PART, ANSWER]
INDIVIDUAL_SYMBOLS = [F, G, A[0], B[0], SKOLEM]

# The table to which the symbols above belong, with one name for a predicate and a function.
NAMES = [(False, "f"), (False, "g"), (False, "a"), (False, "b"), (False, "h")]


def f(*arguments):
    return (F, arguments)


def g(*arguments):
    return (G, arguments)


def p(*arguments):
    return (P, arguments)


def q(*arguments):
    return (Q, arguments)


def yes(term):
    return (True, term, TRUTH)


def no(term):
    return (False, term, TRUTH)


def eq(left, right):
    return (True, left, right)


def ne(left, right):
    return (False, left, right)


def chain(depth, end):
    """The term f(f(.. end ..)) with this many functions."""
    term = end
    for _ in range(depth):
        term = f(term)
    return term


def random_term(source, symbols, variables, depth):
    """A term of these symbols, each with 0 to 3 arguments, and of variables below a number."""
    if source.random() < 0.35 and variables:
        return source.randrange(variables)
    many = source.randrange(4) if depth else 0
    arguments = [random_term(source, symbols, variables, depth - 1) for _ in range(many)]
    return (source.choice(symbols), tuple(arguments))


def random_terms(seed, many, symbols=ALL_SYMBOLS, variables=4, depth=3):
    source = random.Random(seed)
    return [random_term(source, symbols, variables, depth) for _ in range(many)]


def random_clause(source, depth=2, most=4, variables=3):
    """A well formed clause."""
    literals = []
    for _ in range(source.randrange(most + 1)):
        positive = source.random() < 0.5
        if source.random() < 0.5:
            many = source.randrange(3)
            arguments = [random_term(source, INDIVIDUAL_SYMBOLS, variables, depth) for _ in range(many)]
            atom_symbol = source.choice([(0, 0, 0), P, Q, PART, ANSWER])
            literals.append((positive, (atom_symbol, tuple(arguments)), TRUTH))
        else:
            left = random_term(source, INDIVIDUAL_SYMBOLS, variables, depth)
            right = random_term(source, INDIVIDUAL_SYMBOLS, variables, depth)
            literals.append((positive, left, right))
    return tuple(literals)


def random_clauses(seed, many, depth=2, most=4, variables=3):
    source = random.Random(seed)
    return [random_clause(source, depth, most, variables) for _ in range(many)]
