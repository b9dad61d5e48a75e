"""Judges of texts: each takes the text of a problem, and a second text where there is one."""

from lastproof.derivations.notation import read_derivation
from lastproof.derivations.saturated import accepts_set, read_set, shows
from lastproof.derivations.searching import accepts_world
from lastproof.derivations.steps import check, ends_empty, resting
from lastproof.derivations.tables import read_world
from lastproof.formulas.meaning import uses_of
from lastproof.order.ordering import compare
from lastproof.problems.reading import read_problem
from lastproof.texts.reading import read_atom_or_term
from lastproof.texts.writing import clause_text


def clauses_of_problem(text):
    """Return the list of pairs (name, texts of the clauses) of what is held."""
    state = read_problem(text)
    given = state.given_clauses()
    return [(told.name, texts_of(given[told.number], state.names)) for told in state.told]


def texts_of(clauses, names):
    """Return the list of the texts of the clauses."""
    return [clause_text(clause, names) for clause in clauses]


def judge_derivation(problem, derivation):
    """Return whether the derivation refutes, the texts of its lines, and the names on which these rest."""
    state = read_problem(problem)
    steps = read_derivation(derivation, state.names)
    lines = check(state.given_clauses(), steps)
    numbers = resting(steps, len(lines))
    rests = [told.name for told in state.told if told.number in numbers]
    return (ends_empty(steps, lines), texts_of(lines, state.names), rests)


def judge_set(problem, text):
    """Return whether the judge accepts the set, and whether it shows all clauses of what is held."""
    state = read_problem(problem)
    pairs = read_set(text, state.names)
    weights = state.symbol_weights()
    given = state.given_clauses()
    covers = all([shows(weights, pairs, clause) for number in given for clause in given[number]])
    return (accepts_set(weights, pairs), covers)


def judge_world(problem, text):
    """Return the size of the world, and whether it is accepted for the formulas that it is checked against."""
    state = read_problem(problem)
    formulas = state.against()
    world = read_world(text, state.names, uses_of(formulas))
    return (world.size, accepts_world(world, formulas))


def compare_terms(problem, first, second):
    """Return "greater", "less", "same" or None for two texts of terms or atoms, by the weights of the problem."""
    state = read_problem(problem)
    term = read_atom_or_term(first, state.names)
    other = read_atom_or_term(second, state.names)
    return compare(state.symbol_weights(), term, other)
