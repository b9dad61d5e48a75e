"""Unification of terms."""

from lastproof.terms.substitutions import put
from lastproof.terms.terms import is_variable, variables


def unify(pairs):
    """Return a most general substitution that unifies the pairs, or None."""
    bound = {}
    todo = list(pairs)
    while todo:
        first, second = todo.pop()
        first = root_of(first, bound)
        second = root_of(second, bound)
        if is_variable(first):
            if not bind(first, second, bound):
                return None
        elif is_variable(second):
            if not bind(second, first, bound):
                return None
        elif first[0] != second[0] or len(first[1]) != len(second[1]):
            return None
        else:
            todo.extend(list(zip(first[1], second[1])))
    return resolved(bound)


def root_of(term, bound):
    """Return what the term is bound to, as far as its root."""
    while is_variable(term) and term in bound:
        term = bound[term]
    return term


def bind(variable, term, bound):
    """Bind a variable that is not bound. Tell whether this can be done."""
    if term == variable:
        return True
    if contains(term, variable, bound):
        return False
    bound[variable] = term
    return True


def contains(term, variable, bound):
    """Tell whether the variable occurs in the term, also behind variables that are bound."""
    seen = {}
    todo = variables(term)
    while todo:
        here = todo.pop()
        if here == variable:
            return True
        if here in bound and here not in seen:
            # What is behind a variable is visited once: it may occur very often.
            seen[here] = True
            todo.extend(variables(bound[here]))
    return False


def resolved(bound):
    """Return the bound variables with terms in which no bound variable occurs."""
    done = {}
    todo = list(bound)
    while todo:
        variable = todo.pop()
        missing = [here for here in variables(bound[variable]) if here in bound and here not in done]
        if missing:
            todo.extend([variable] + missing)
        elif variable not in done:
            done[variable] = put(bound[variable], done)
    return done
