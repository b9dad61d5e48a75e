"""Matching of terms."""

from lastproof.terms.terms import is_variable


def match(pattern, term, told):
    """Return told and the further variables of the pattern with their terms, or None if none fit."""
    found = {variable: told[variable] for variable in told}
    # The last pair is taken first, so that the pattern is read from left to right.
    todo = [(pattern, term)]
    while todo:
        here, there = todo.pop()
        if is_variable(here):
            if found.setdefault(here, there) != there:
                return None
        elif is_variable(there) or here[0] != there[0] or len(here[1]) != len(there[1]):
            return None
        else:
            todo.extend(list(zip(here[1], there[1]))[::-1])
    return found
