"""Formulas: tuples that begin with a word."""

from lastproof.terms.terms import variables


def basic_parts(formula):
    """Return the list of pairs (atom or equality, variables bound around it), from left to right."""
    found = []
    todo = [(formula, ())]
    while todo:
        here, bound = todo.pop()
        if here[0] in ("atom", "equal"):
            found.append((here, bound))
        elif here[0] in ("all", "some"):
            todo.append((here[2], bound + (here[1],)))
        else:
            # The last part is put down first, so that the formula is read from left to right.
            todo.extend([(part, bound) for part in here[1:][::-1]])
    return found


def free_variables(formula):
    """Return the list of the free variables by their first free occurrence, each once."""
    found = {}
    for part, bound in basic_parts(formula):
        for term in part[1:]:
            for variable in variables(term):
                if variable not in bound:
                    found[variable] = True
    return list(found)


def quantified(word, bound, formula):
    """Return the formula with quantifiers of these variables around it, the first one outermost."""
    around = formula
    for variable in bound[::-1]:
        around = (word, variable, around)
    return around
