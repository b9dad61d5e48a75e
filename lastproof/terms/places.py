"""Places in terms: tuples of argument positions, counted from 0."""

from lastproof.terms.terms import is_variable


def places(term):
    """Return the list of the pairs (place, term at this place), in the order of the places."""
    found = []
    todo = [((), term)]
    while todo:
        place, here = todo.pop()
        found.append((place, here))
        if not is_variable(here):
            below = [(place + (k,), argument) for k, argument in enumerate(here[1])]
            todo.extend(below[::-1])
    return found


def at(term, place):
    """Return the term at the place, or None if the place does not exist."""
    here = term
    for k in place:
        if is_variable(here) or not 0 <= k < len(here[1]):
            return None
        here = here[1][k]
    return here


def put_at(term, place, new):
    """Return the term with the new one at the place, unchanged if the place does not exist."""
    if at(term, place) is None:
        return term
    return replaced(term, place, new)


def replaced(term, place, new):
    """Return the term with the new one at a place that exists."""
    if not place:
        return new
    symbol, arguments = term
    k = place[0]
    changed = replaced(arguments[k], place[1:], new)
    return (symbol, arguments[:k] + (changed,) + arguments[k + 1:])
