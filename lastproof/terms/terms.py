"""Terms: a variable is an integer, a compound is a tuple (symbol, arguments)."""

from lastproof.terms.symbols import FUNCTION_KIND, SKOLEM_KIND


def is_variable(term):
    """Tell whether the term is a variable."""
    return isinstance(term, int)


def subterms(term):
    """Return the list of all terms in the term, itself first, from left to right, with repetitions."""
    found = []
    todo = [term]
    while todo:
        here = todo.pop()
        found.append(here)
        if not is_variable(here):
            todo.extend(here[1][::-1])
    return found


def size(term):
    """Return the number of variables and symbols in the term, with repetitions."""
    return len(subterms(term))


def depth(term):
    """Return 0 for a variable or a constant, else one more than the greatest depth of an argument."""
    rows = -1
    row = [term]
    while row:
        rows += 1
        row = [argument for here in row if not is_variable(here) for argument in here[1]]
    return rows


def occurrences(term, variable):
    """Return how often the variable occurs in the term."""
    return subterms(term).count(variable)


def variables(term):
    """Return the list of the variables of the term by their first occurrence, each once."""
    found = {here: True for here in subterms(term) if is_variable(here)}
    return list(found)


def use_of(term):
    """Return the symbol of a compound with the number of its arguments, or None for a variable."""
    if is_variable(term):
        return None
    return (term[0], len(term[1]))


def is_individual_symbol(symbol):
    """Tell whether the symbol is a function or a Skolem function."""
    return symbol[0] in (FUNCTION_KIND, SKOLEM_KIND)


def is_atom(term):
    """Tell whether the term is a compound of truth, a predicate, a part name or an answer."""
    return not is_variable(term) and not is_individual_symbol(term[0])


def is_individual(term):
    """Tell whether the term contains only variables, functions and Skolem functions."""
    return all(is_variable(here) or is_individual_symbol(here[0]) for here in subterms(term))


def is_atomic(term):
    """Tell whether the term is an atom whose arguments are all individual."""
    return is_atom(term) and all(is_individual(argument) for argument in term[1])
