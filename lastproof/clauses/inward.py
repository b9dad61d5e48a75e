"""Negation normal form."""

OPPOSITES = {"and": "or", "or": "and", "all": "some", "some": "all"}


def inward(formula, positive):
    """Return the positive or the negative form of the formula."""
    word = formula[0]
    if word in ("atom", "equal"):
        return formula if positive else ("not", formula)
    if word == "not":
        return inward(formula[1], not positive)
    if word in ("all", "some"):
        return (word if positive else OPPOSITES[word], formula[1], inward(formula[2], positive))
    left, right = formula[1:]
    if word == "iff":
        first = ("or", inward(left, not positive), inward(right, True))
        return ("and", first, ("or", inward(left, positive), inward(right, False)))
    if word == "implies":
        return ("or" if positive else "and", inward(left, not positive), inward(right, positive))
    return (word if positive else OPPOSITES[word], inward(left, positive), inward(right, positive))
