"""Questions, and the answers of derivations."""

from lastproof.derivations.steps import check, ends_empty, used_lines
from lastproof.formulas.formulas import quantified
from lastproof.terms.literals import clause_variables
from lastproof.terms.substitutions import put
from lastproof.terms.symbols import answer
from lastproof.terms.terms import is_variable, variables

MOST_INSTANCES = 500


def sought(formula):
    """Return the list of the variables that are sought, and the rest of the question."""
    bound = []
    rest = formula
    while rest[0] == "some":
        bound.append(rest[1])
        rest = rest[2]
    return (bound, rest)


def question_axiom(number, formula):
    """Return the axiom of the question with this number."""
    bound, rest = sought(formula)
    atom = ("atom", (answer(number), tuple(bound)))
    found = quantified("all", bound, ("implies", rest, atom))
    return ("and", found, quantified("all", bound, ("not", atom)))


def answers(given, number, steps):
    """Return the list of the rows of a derivation that refutes, or None if there is no result."""
    lines = check(given, steps)
    if not ends_empty(steps, lines):
        return None
    instances = instances_of(steps, lines)
    if instances is None:
        return None
    rows = []
    for k in reversed(range(len(lines))):
        if steps[k][:2] == ("given", number) and is_answer(lines[k], number):
            for instance in instances[k]:
                row = put(lines[k][0][1], instance)[1]
                if row not in rows:
                    rows.append(row)
    return renumbered_rows(rows)


def instances_of(steps, lines):
    """Return the list of the lists of the instances of each line, or None if they are too many."""
    bound = [clause_variables(line) for line in lines]
    found = [[] for _ in lines]
    found[-1].append({variable: variable for variable in bound[-1]})
    many = 1
    for k in reversed(range(len(lines))):
        for instance in list(found[k]):
            for number, substitution in used_lines(steps[k]):
                new = {variable: put(substitution.get(variable, variable), instance) for variable in bound[number]}
                if new not in found[number]:
                    found[number].append(new)
                    many += 1
            if many > MOST_INSTANCES:
                return None
    return found


def is_answer(clause, number):
    """Tell whether the clause is the single negative literal of an atom with the symbol of the answer."""
    if len(clause) != 1:
        return False
    positive, left, _ = clause[0]
    return not positive and not is_variable(left) and left[0] == answer(number)


def renumbered_rows(rows):
    """Return the rows with the variables 0, 1, 2 and so on, in the order of their first occurrence."""
    numbering = {}
    for row in rows:
        for term in row:
            for variable in variables(term):
                numbering.setdefault(variable, len(numbering))
    return [tuple([put(term, numbering) for term in row]) for row in rows]
