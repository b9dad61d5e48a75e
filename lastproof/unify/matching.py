"""Matching of terms."""


def match(pattern, term, told):
    """Return told and the further variables of the pattern with their terms, or None if none fit."""
    found = {variable: told[variable] for variable in told}
    return found if fits(pattern, term, found) else None


def fits(pattern, term, found):
    """Tell whether the pattern matches with what was found, and add its further variables, from left to right."""
    # Most of the time of the program is spent here, so variables are recognized without a further call.
    if isinstance(pattern, int):
        return found.setdefault(pattern, term) == term
    if isinstance(term, int) or pattern[0] != term[0] or len(pattern[1]) != len(term[1]):
        return False
    for argument, other in zip(pattern[1], term[1]):
        if not fits(argument, other, found):
            return False
    return True
