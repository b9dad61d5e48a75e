"""The judge of derivations: the steps and their lines."""

from lastproof.simplify.cleaning import cleaned
from lastproof.terms.literals import is_well_formed, side, with_literal, with_side, without_literal
from lastproof.terms.places import at, put_at
from lastproof.terms.substitutions import put_clause
from lastproof.terms.terms import is_atom, is_individual


def conclude(given, lines, step):
    """Return the line of the step if it holds, or None."""
    if step[0] == "given":
        line = given_line(given, step)
    else:
        rule = RULES[step[0]]
        line = rule(lines, step)
    if line is None or not is_well_formed(line):
        return None
    return line


def check(given, steps):
    """Return the list of the lines of the steps before the first one that does not hold."""
    lines = []
    for step in steps:
        line = conclude(given, lines, step)
        if line is None:
            return lines
        lines.append(line)
    return lines


def refutes(given, steps):
    """Tell whether the derivation refutes the given clauses."""
    return ends_empty(steps, check(given, steps))


def ends_empty(steps, lines):
    """Tell whether each of the steps has a line, and the last line is the empty clause."""
    return len(lines) == len(steps) and lines[-1:] == [()]


def resting(steps, count):
    """Return the list of the axioms of the "given" steps among the first ones, each once."""
    found = {step[1]: True for step in steps[:count] if step[0] == "given"}
    return list(found)


def used_lines(step):
    """Return the list of pairs (number, substitution) of the lines that the step uses."""
    if step[0] == "given":
        return []
    if step[0] == "clean":
        return [(step[1], {})]
    if step[0] == "superpose":
        return [(step[1], step[2]), (step[6], step[7])]
    return [(step[1], step[2])]


def given_line(given, step):
    """Return the given clause that the step names, or None."""
    _, axiom, index = step
    return item_at(given.get(axiom, []), index)


def item_at(items, k):
    """Return the item with the index k, or None if there is none."""
    if 0 <= k < len(items):
        return items[k]
    return None


def instance_of_line(lines, number, substitution):
    """Return the instance of the line, or None if there is no such line or a term is not individual."""
    line = item_at(lines, number)
    if line is None or not all(is_individual(substitution[variable]) for variable in substitution):
        return None
    return put_clause(line, substitution)


def superposed(lines, step):
    """Return the line of a "superpose" step, or None."""
    _, i, r, into, changed_side, place, j, q, by, by_side = step
    c = instance_of_line(lines, i, r)
    d = instance_of_line(lines, j, q)
    if c is None or d is None or not are_sides([changed_side, by_side]):
        return None
    literal = item_at(c, into)
    equation = item_at(d, by)
    if literal is None or equation is None or not is_equation(equation):
        return None
    term = side(literal, changed_side)
    if at(term, place) != side(equation, by_side):
        return None
    changed = put_at(term, place, side(equation, 1 - by_side))
    return with_literal(c, into, with_side(literal, changed_side, changed)) + without_literal(d, by)


def are_sides(numbers):
    """Tell whether all of the numbers are numbers of sides."""
    return all(k == 0 or k == 1 for k in numbers)


def is_equation(literal):
    """Tell whether the literal is positive and both of its sides are atoms, or neither is."""
    return literal[0] and is_atom(literal[1]) == is_atom(literal[2])


def resolved(lines, step):
    """Return the line of a "resolve" step, or None."""
    _, i, r, k = step
    c = instance_of_line(lines, i, r)
    literal = None if c is None else item_at(c, k)
    if literal is None or literal[0] or literal[1] != literal[2]:
        return None
    return without_literal(c, k)


def factored(lines, step):
    """Return the line of a "factor" step, or None."""
    _, i, r, first, first_side, second, second_side = step
    c = instance_of_line(lines, i, r)
    if c is None or first == second or not are_sides([first_side, second_side]):
        return None
    one = item_at(c, first)
    other = item_at(c, second)
    if one is None or other is None or not one[0] or not other[0]:
        return None
    if side(one, first_side) != side(other, second_side):
        return None
    left = side(one, 1 - first_side)
    right = side(other, 1 - second_side)
    if is_atom(left) != is_atom(right):
        return None
    return with_literal(c, first, (False, left, right))


def instanced(lines, step):
    """Return the line of an "instance" step, or None."""
    _, i, r = step
    return instance_of_line(lines, i, r)


def cleaned_line(lines, step):
    """Return the line of a "clean" step, or None."""
    line = item_at(lines, step[1])
    return None if line is None else cleaned(line)


RULES = {
    "superpose": superposed, "resolve": resolved, "factor": factored, "instance": instanced, "clean": cleaned_line,
}
